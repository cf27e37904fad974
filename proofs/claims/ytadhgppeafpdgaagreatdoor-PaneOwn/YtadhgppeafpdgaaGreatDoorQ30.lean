import Derived.Test.YtadhgppeafpdgaaGreatDoorQ29
set_option linter.all false
set_option maxRecDepth 100000
set_option maxHeartbeats 16000000
namespace Go.Proofs.YtadhgppeafpdgaaGreatDoor
open Go.RowKit Go.Proofs.Tryz
theorem fitting_any(l:List (List UInt8×Int))(v:Value)(W:Int)(w:World)(hcl:Ag w v l)(hbd:∀c∈l,0<=c.2/\c.2<=2)(aO:l.length<=1099511627776)(bc:-9223372036854775808<=W)(bZ:W<=9223372036854775807):
 Cw 214 #[v,Iq W] w fun e w'=>e=Rw (Iq (dI l W))/\Bt w w':=by
 obtain⟨a,cap,rfl,hh⟩:=hcl;have kZ:=qH<|hbd;clear hbd;go_enter func214,ntmps214;go_wp2;go_loopw[1,9] (fun x i wr=>∃k:Nat,k<=l.length/\i=Iq k/\x=Iq (W-aj (l.take k))/\Hid (Fit l W k)/\Bt w wr) (fun _ i _=>l.length-(intOf i).toNat);case atStart=>exact⟨0,bm _,rfl,by simp[aj],fun j hj=>by omega,ag _ _⟩
 case round=>
  obtain⟨k,hk,rfl,rfl,Ky,b_⟩:=hrel;have hwb:=dp l kZ k;have hwW:k=0\/aj (l.take k)<=W:=by
   cases k with
   |zero=>omega
   |succ k=>exact .inr (Ky k (by omega)).2
  have hw0:k=0->aj (l.take k)=0:=fun e=>by omega
  have eV:=b_.size;by_cases hlt:k<l.length
  ·have aR:(k:Int)<(l.length:Int):=by omega
   have bj:l≠[]:=fun e=>by grind
   obtain⟨b,off,rfl,hb,hc⟩:=hh.resolve_left bj;obtain⟨T,V,pP⟩:∃T V,l[k]=(T,V):=⟨_,_,rfl⟩;have hV:=kZ l[k] (rT hlt);have c0:wr.cell? (aq b (off+k*2))=some (.string ⟨T.toArray⟩):=by have:=(hc k hlt).1;rw[pP]at this;exact(b_.cell (p:=(aq b (off+k*2))) hb).trans this
   have c1:wr.cell? (aq b (off+k*2+1))=some (Iq V):=by have:=(hc k hlt).2;rw[pP]at this;exact(b_.cell (p:=(aq b (off+k*2+1))) hb).trans this
   have HS:Hid (aj (l.take (k+1))=aj (l.take k)+V):=by show _=_;rw[f_ l k hlt,pP]
   have HX:Hid (tx l k=T):=by show _=_;rw[IL hlt,pP]
   rw[pP]at hV;obtain⟨X,hX⟩:=af (aj (l.take k));rw[hX]at HS hwb hwW hw0;rw[hX];simp only at hV;have ux:-9223372036854775808<=W-X:=by omega
   have hr1:W-X<=9223372036854775807:=by omega
   clear hh hc pP hX bj;by_cases fM:T=[10]
   ·have HE:=qH<|fitN_stop l W k hk Ky (fun _=>.inl (by rw[HX.out,fM]));have EX:(T==[10])=true:=by rw[fM];rfl
    go_wp2;go_ret;rw[HE.out];exact⟨rfl,b_.alloc eV _⟩
   ·have EX:(T==[10])=false:=by simpa using fM
    by_cases Tx:W-X<V;·have HE:=qH<|fitN_stop l W k hk Ky (fun _=>.inr (by rw[HS.out];omega));go_wp2;go_ret;rw[HE.out];exact⟨rfl,b_.alloc eV _⟩
    ·have HF:Hid (Fit l W (k+1)):=fun j hj=>by
      by_cases e:j=k;·subst e;rw[HX.out,HS.out];grind
      ·exact Ky j (by omega)
     go_wp2;go_roundw;case rel=>exact⟨k+1,by omega,by go_num,by rw[HS.out];grind,HF,b_.alloc eV _⟩
     case measure=>simp[intOf];omega
  ·have aR:¬(k:Int)<(l.length:Int):=by omega
   have HE:=qH<|fitN_stop l W k hk Ky (fun h=>absurd h hlt);have cZ:k=l.length:=by omega
   clear hh;go_wp2;go_ret;rw[HE.out];simp_all
theorem wN(l:List (List UInt8×Int))(v:Value)(w:World)(hcl:Ag w v l)(aO:l.length<=1099511627776):
 Cw 260 #[v] w fun e w'=>e=Rw (Iq (fe l l.length))/\Bt w w':=by
 obtain⟨a,cap,rfl,hh⟩:=hcl;go_enter func260,ntmps260;go_wp2;go_loopw[3] (fun i wr=>∃k:Nat,k<=l.length/\i=Iq ((k:Int)-1)/\Hid (fe l l.length=fe l k)/\Bt w wr) (fun i _=>(intOf i+1).toNat);case atStart=>exact⟨l.length,ae _,rfl,rfl,ag _ _⟩
 case round=>
  obtain⟨k,hk,rfl,hE,b_⟩:=hrel;have eV:=b_.size;cases k with
  |zero=>clear hh;go_wp2;go_ret;rw[hE.out];exact⟨rfl,b_⟩
  |succ k=>
   have hlt:k<l.length:=by omega
   have bj:l≠[]:=fun e=>by grind
   obtain⟨b,off,rfl,hb,hc⟩:=hh.resolve_left bj;obtain⟨T,V,pP⟩:∃T V,l[k]=(T,V):=⟨_,_,rfl⟩;have c0:wr.cell? (aq b (off+k*2))=some (.string ⟨T.toArray⟩):=by have:=(hc k hlt).1;rw[pP]at this;exact(b_.cell (p:=(aq b (off+k*2))) hb).trans this
   have HX:Hid (tx l k=T):=by show _=_;rw[IL hlt,pP]
   have zt:((k+1:Nat):Int)-1=(k:Int):=by omega
   rw[zt];clear hh hc pP bj;by_cases LW:T=[32]
   ·have HE:Hid (fe l l.length=k):=by show _=_;rw[hE.out];simp only[fe];rw[if_pos (by rw[HX.out,LW])]
    have za6:(T==[32])=true:=by rw[LW];rfl
    go_wp2;go_ret;rw[HE.out];simp_all
   ·have za6:(T==[32])=false:=by simpa using LW
    have HE:Hid (fe l l.length=fe l k):=by show _=_;rw[hE.out];simp only[fe];rw[if_neg (by rw[HX.out];exact LW)]
    go_wp2;go_roundw;case rel=>grind
    case measure=>simp[intOf]
theorem q_(s:ByteArray)(w:World)(ht:aL w)(hs:s.size<=1099511627776):
 Cw 179 #[.string s] w fun e w'=>e=Rw (Iq (aj (bi (ap s.data.toList))))/\Bt w w':=by
 have pR:s.data.toList.length=s.size:=by rw[gc];rfl
 have hR:=bp s.data.toList;have hC:=cu (ap s.data.toList);rw[pR]at hR;have hbd:=gB (ap s.data.toList);have G:Hid (Cw 167 #[.string s] w fun e w'=>∃v,e=Rw v/\Ag w' v (bi (ap s.data.toList))/\Bt w w'):=by refine(e_ s w ht hs).mono ?_;rintro e w1 ⟨v,rfl,o,b⟩;exact⟨v,rfl,yX o,b⟩
 obtain⟨l,hl⟩:=af (bi (ap s.data.toList));rw[hl]at G hC hbd;have HL:=qH<|hl;have kZ:=qH<|hbd;clear hl pR ht hbd;go_enter func179,ntmps179;go_wp2_with fail;refine G.mono ?_;rintro e w1 ⟨v1,rfl,⟨a,cap,rfl,hh⟩,b1⟩;have hs1:=b1.size;clear G;go_wp2;go_loopw[3,9] (fun t i wr=>∃k:Nat,k<=l.length/\i=Iq k/\t=Iq (aj (l.take k))/\Bt w1 wr) (fun _ i _=>l.length-(intOf i).toNat);case atStart=>exact⟨0,bm _,rfl,rfl,ag _ _⟩
 case round=>
  obtain⟨k,hk,rfl,rfl,b_⟩:=hrel;have hwb:=dp l kZ k;have eV:=b_.size;by_cases hlt:k<l.length
  ·have aR:(k:Int)<(l.length:Int):=by omega
   have bj:l≠[]:=fun e=>by grind
   obtain⟨b,off,rfl,hb,hc⟩:=hh.resolve_left bj;obtain⟨T,W,Ol⟩:∃T W,l[k]=(T,W):=⟨_,_,rfl⟩;have hW:=kZ l[k] (rT hlt);have c0:wr.cell? (aq b (off+k*2))=some (.string ⟨T.toArray⟩):=by have:=(hc k hlt).1;rw[Ol]at this;exact(b_.cell (p:=(aq b (off+k*2))) hb).trans this
   have c1:wr.cell? (aq b (off+k*2+1))=some (Iq W):=by have:=(hc k hlt).2;rw[Ol]at this;exact(b_.cell (p:=(aq b (off+k*2+1))) hb).trans this
   have HS:Hid (aj (l.take (k+1))=aj (l.take k)+W):=by show _=_;rw[f_ l k hlt,Ol]
   rw[Ol]at hW;obtain⟨X,hX⟩:=af (aj (l.take k));rw[hX]at HS hwb;rw[hX];simp only at hW;clear hh hc Ol hX bj;go_wp2;go_roundw;case rel=>exact⟨k+1,by omega,by go_num,by rw[HS.out],b_.alloc eV _⟩
   case measure=>simp[intOf];omega
  ·have aR:¬(k:Int)<(l.length:Int):=by omega
   have HE:Hid (l.take k=l):=im (by omega);clear hh;go_wp2;go_ret;rw[HL.out,HE.out];exact⟨rfl,b1.trans (b_.mono hs1)⟩
