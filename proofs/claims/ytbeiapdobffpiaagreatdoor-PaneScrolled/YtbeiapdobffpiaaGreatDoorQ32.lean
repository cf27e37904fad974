import Derived.Test.YtbeiapdobffpiaaGreatDoorQ31
import Derived.BigQuiet
set_option linter.all false
set_option maxRecDepth 100000
set_option maxHeartbeats 16000000
namespace Go.Proofs.YtbeiapdobffpiaaGreatDoor
open Go.RowKit Go.Proofs.Tryz
def ri(w:World)(v:Value)(l:List (List UInt8×Int)):Prop:=
 ∃a al,v=.slice a l.length al/\(l=[]\/∃b off,a=some (az b off)/\b<w.heap.size/\∀j (hj:j<l.length),w.cell? (az b (off+j*2))=some (.string ⟨(l[j]).1.toArray⟩)/\w.cell? (az b (off+j*2+1))=some (Iq (l[j]).2))
theorem ri.below{w w'}{v}{l}(h:ri w v l)(hb:Bt w w'):ri w' v l:=by
 obtain⟨a,al,rfl,hh⟩:=h;refine⟨a,al,rfl,?_⟩;rcases hh with rfl|⟨b,off,rfl,hl,hc⟩;·grind
 ·exact .inr ⟨b,off,rfl,bn hl hb.size,fun j hj=>⟨(hb.cell (p:=(az b (off+j*2))) hl).trans (hc j hj).1,(hb.cell (p:=(az b (off+j*2+1))) hl).trans (hc j hj).2⟩⟩
theorem lQ  l  :(dF l).length=l.length*2:=by
 induction l with
 |nil=>rfl
 |cons c l ih=>grind[dF]
theorem FM  l   j  (hj:j<l.length):(dF l)[j*2]?=some (.string ⟨(l[j]).1.toArray⟩)/\(dF l)[j*2+1]?=some (Iq (l[j]).2):=by
 induction l generalizing j with
 |nil=>grind
 |cons c l ih=>have e:dF (c::l)=.string ⟨c.1.toArray⟩::Iq c.2::dF l:=rfl;grind
theorem wm{w}{B n}{e}{v}{l}(h:w.ownsRow B e 2 v n (dF l)):ri w v l:=by
 have hl:l.length=n:=by have:=h.1;rw[lQ]at this;omega
 rcases h.2 with⟨rfl,rfl⟩|⟨g,al,iT,rfl,_,hg,_⟩;·have hz:=ot.1 hl;subst hz;exact⟨none,0,rfl,.inl rfl⟩
 ·refine⟨some (az g 0),al,by rw[hl],.inr ⟨g,0,rfl,(aS.1 hg).1,fun j hj=>?_⟩⟩;have c:=FM l j hj;have a0:=h.cells (g:=g) rfl (j*2) _ c.1;have a1:=h.cells (g:=g) rfl (j*2+1) _ c.2;have e0:((az g 0):Addr).add (j*2)=(az g (0+j*2)):=by unfold Addr.add;split<;>simp_all
  have e1:((az g 0):Addr).add (j*2+1)=(az g (0+j*2+1)):=by unfold Addr.add;split<;>simp_all
  grind
theorem fitting_any(l:List (List UInt8×Int))(v:Value)(W:Int)(w:World)(hcl:ri w v l)(hbd:∀c∈l,0<=c.2/\c.2<=2)(bH:l.length<=1099511627776)(dG:-9223372036854775808<=W)(cE:W<=9223372036854775807):
 Cw 261 #[v,Iq W] w fun e w'=>e=Rw (Iq (e_ l W))/\Bt w w':=by
 obtain⟨a,al,rfl,hh⟩:=hcl;have iW:=qH<|hbd;clear hbd;go_enter func261,ntmps261;go_wp2;go_loopw[1,9] (fun x i wr=>∃k:Nat,k<=l.length/\i=Iq k/\x=Iq (W-aF (l.take k))/\Hid (Fit l W k)/\Bt w wr) (fun _ i _=>l.length-(intOf i).toNat);case atStart=>exact⟨0,bc _,rfl,by simp[aF],fun j hj=>by omega,ag _ _⟩
 case round=>
  obtain⟨k,hk,rfl,rfl,rZ,hbw⟩:=hrel;have hwb:=dR l iW k;have hwW:k=0\/aF (l.take k)<=W:=by
   cases k with
   |zero=>omega
   |succ k=>exact .inr (rZ k (by omega)).2
  have hw0:k=0->aF (l.take k)=0:=fun e=>by omega
  have fT:=hbw.size;by_cases hlt:k<l.length
  ·have aK:(k:Int)<(l.length:Int):=by omega
   have bG:l≠[]:=fun e=>by grind
   obtain⟨b,off,rfl,hb,hc⟩:=hh.resolve_left bG;obtain⟨T,V,jj⟩:∃T V,l[k]=(T,V):=⟨_,_,rfl⟩;have hV:=iW l[k] (l6 hlt);have c0:wr.cell? (az b (off+k*2))=some (.string ⟨T.toArray⟩):=by have:=(hc k hlt).1;rw[jj]at this;exact(hbw.cell (p:=(az b (off+k*2))) hb).trans this
   have c1:wr.cell? (az b (off+k*2+1))=some (Iq V):=by have:=(hc k hlt).2;rw[jj]at this;exact(hbw.cell (p:=(az b (off+k*2+1))) hb).trans this
   have HS:Hid (aF (l.take (k+1))=aF (l.take k)+V):=by show _=_;rw[dS l k hlt,jj]
   have HX:Hid (tx l k=T):=by show _=_;rw[vk hlt,jj]
   rw[jj]at hV;obtain⟨X,hX⟩:=aj (aF (l.take k));rw[hX]at HS hwb hwW hw0;rw[hX];simp only at hV;have zh:-9223372036854775808<=W-X:=by omega
   have hr1:W-X<=9223372036854775807:=by omega
   clear hh hc jj hX bG;by_cases eq:T=[10]
   ·have HE:=qH<|fitN_stop l W k hk rZ (fun _=>.inl (by rw[HX.out,eq]));have tL:(T==[10])=true:=by rw[eq];rfl
    go_wp2;go_ret;rw[HE.out];exact⟨rfl,hbw.alloc fT _⟩
   ·have tL:(T==[10])=false:=by simpa using eq
    by_cases yU:W-X<V;·have HE:=qH<|fitN_stop l W k hk rZ (fun _=>.inr (by rw[HS.out];omega));go_wp2;go_ret;rw[HE.out];exact⟨rfl,hbw.alloc fT _⟩
    ·have HF:Hid (Fit l W (k+1)):=fun j hj=>by
      by_cases e:j=k;·subst e;rw[HX.out,HS.out];grind
      ·exact rZ j (by omega)
     go_wp2;go_roundw;case rel=>exact⟨k+1,by omega,by go_num,by rw[HS.out];grind,HF,hbw.alloc fT _⟩
     case measure=>simp[intOf];omega
  ·have aK:¬(k:Int)<(l.length:Int):=by omega
   have HE:=qH<|fitN_stop l W k hk rZ (fun h=>absurd h hlt);have dD:k=l.length:=by omega
   clear hh;go_wp2;go_ret;rw[HE.out];simp_all
theorem tZ(l:List (List UInt8×Int))(v:Value)(w:World)(hcl:ri w v l)(bH:l.length<=1099511627776):
 Cw 262 #[v] w fun e w'=>e=Rw (Iq (cV l l.length))/\Bt w w':=by
 obtain⟨a,al,rfl,hh⟩:=hcl;go_enter func262,ntmps262;go_wp2;go_loopw[3] (fun i wr=>∃k:Nat,k<=l.length/\i=Iq ((k:Int)-1)/\Hid (cV l l.length=cV l k)/\Bt w wr) (fun i _=>(intOf i+1).toNat);case atStart=>exact⟨l.length,ai _,rfl,rfl,ag _ _⟩
 case round=>
  obtain⟨k,hk,rfl,hE,hbw⟩:=hrel;have fT:=hbw.size;cases k with
  |zero=>clear hh;go_wp2;go_ret;rw[hE.out];exact⟨rfl,hbw⟩
  |succ k=>
   have hlt:k<l.length:=by omega
   have bG:l≠[]:=fun e=>by grind
   obtain⟨b,off,rfl,hb,hc⟩:=hh.resolve_left bG;obtain⟨T,V,jj⟩:∃T V,l[k]=(T,V):=⟨_,_,rfl⟩;have c0:wr.cell? (az b (off+k*2))=some (.string ⟨T.toArray⟩):=by have:=(hc k hlt).1;rw[jj]at this;exact(hbw.cell (p:=(az b (off+k*2))) hb).trans this
   have HX:Hid (tx l k=T):=by show _=_;rw[vk hlt,jj]
   have oU:((k+1:Nat):Int)-1=(k:Int):=by omega
   rw[oU];clear hh hc jj bG;by_cases yP:T=[32]
   ·have HE:Hid (cV l l.length=k):=by show _=_;rw[hE.out];simp only[cV];rw[if_pos (by rw[HX.out,yP])]
    have Oe:(T==[32])=true:=by rw[yP];rfl
    go_wp2;go_ret;rw[HE.out];simp_all
   ·have Oe:(T==[32])=false:=by simpa using yP
    have HE:Hid (cV l l.length=cV l k):=by show _=_;rw[hE.out];simp only[cV];rw[if_neg (by rw[HX.out];exact yP)]
    go_wp2;go_roundw;case rel=>grind
    case measure=>simp[intOf]
theorem yw(s:ByteArray)(w:World)(ht:dC w)(hs:s.size<=1099511627776):
 Cw 134 #[.string s] w fun e w'=>e=Rw (Iq (aF (cL (aZ s.data.toList))))/\Bt w w':=by
 have uM:s.data.toList.length=s.size:=by rw[j9];rfl
 have hR:=du s.data.toList;have hC:=fM (aZ s.data.toList);rw[uM]at hR;have hbd:=jv (aZ s.data.toList);have G:Hid (Cw 171 #[.string s] w fun e w'=>∃v,e=Rw v/\ri w' v (cL (aZ s.data.toList))/\Bt w w'):=by refine(lT s w ht hs).mono ?_;rintro e w1 ⟨v,rfl,o,b⟩;exact⟨v,rfl,wm o,b⟩
 obtain⟨l,hl⟩:=aj (cL (aZ s.data.toList));rw[hl]at G hC hbd;have HL:=qH<|hl;have iW:=qH<|hbd;clear hl uM ht hbd;go_enter func134,ntmps134;go_wp2_with fail;refine G.mono ?_;rintro e w1 ⟨v1,rfl,⟨a,al,rfl,hh⟩,b1⟩;have hs1:=b1.size;clear G;go_wp2;go_loopw[3,9] (fun t i wr=>∃k:Nat,k<=l.length/\i=Iq k/\t=Iq (aF (l.take k))/\Bt w1 wr) (fun _ i _=>l.length-(intOf i).toNat);case atStart=>exact⟨0,bc _,rfl,rfl,ag _ _⟩
 case round=>
  obtain⟨k,hk,rfl,rfl,hbw⟩:=hrel;have hwb:=dR l iW k;have fT:=hbw.size;by_cases hlt:k<l.length
  ·have aK:(k:Int)<(l.length:Int):=by omega
   have bG:l≠[]:=fun e=>by grind
   obtain⟨b,off,rfl,hb,hc⟩:=hh.resolve_left bG;obtain⟨T,W,Xc⟩:∃T W,l[k]=(T,W):=⟨_,_,rfl⟩;have hW:=iW l[k] (l6 hlt);have c0:wr.cell? (az b (off+k*2))=some (.string ⟨T.toArray⟩):=by have:=(hc k hlt).1;rw[Xc]at this;exact(hbw.cell (p:=(az b (off+k*2))) hb).trans this
   have c1:wr.cell? (az b (off+k*2+1))=some (Iq W):=by have:=(hc k hlt).2;rw[Xc]at this;exact(hbw.cell (p:=(az b (off+k*2+1))) hb).trans this
   have HS:Hid (aF (l.take (k+1))=aF (l.take k)+W):=by show _=_;rw[dS l k hlt,Xc]
   rw[Xc]at hW;obtain⟨X,hX⟩:=aj (aF (l.take k));rw[hX]at HS hwb;rw[hX];simp only at hW;clear hh hc Xc hX bG;go_wp2;go_roundw;case rel=>exact⟨k+1,by omega,by go_num,by rw[HS.out],hbw.alloc fT _⟩
   case measure=>simp[intOf];omega
  ·have aK:¬(k:Int)<(l.length:Int):=by omega
   have HE:Hid (l.take k=l):=gt (by omega);clear hh;go_wp2;go_ret;rw[HL.out,HE.out];exact⟨rfl,b1.trans (hbw.mono hs1)⟩
theorem AJ(a b:List UInt8):(⟨a.toArray⟩:ByteArray)++(⟨b.toArray⟩:ByteArray)=⟨(a++b).toArray⟩:=by apply l8;simp
theorem wU:(prog.info? 316).map (fun i=>(i.zero,i.size,i.bytes))=some (some (.agg #[.string ⟨#[]⟩,Iq 0]),2,24):=by kernel_rfl
theorem FZ  l   x  :enc (l++[x])=enc l++Lib.encodeRune x:=by simp[enc]
theorem zw  b   L   k  (h:k<=L.length):(enc (b::keep L k)).length<=20:=by grind[Cc,keep,kO]
theorem clus_ten{R}{pos}{acc}(hp:pos<R.length)(h:acc++cL (R.drop pos)=cL R)(hr:R[pos]=10):
 (acc++[([10],0)])++cL (R.drop (pos+1))=cL R:=by
 have e:R.drop pos=10::R.drop (pos+1):=by rw[tn hp,hr]
 grind[cL,gw,gX,gH,jr]
theorem FS{R}{pos k}{acc}{r}(hp:pos<R.length)(h:acc++cL (R.drop pos)=cL R)(hr:R[pos]=r)(eq:r≠10)(hm:gy r=true)(hk:zE (R.drop pos)=(R.drop pos).take k)(dD:k<=(R.drop pos).length):
 (acc++[(enc (32::keep (R.drop pos) k),1)])++cL (R.drop (pos+k))=cL R:=by
 have e:R.drop pos=r::R.drop (pos+1):=by rw[tn hp,hr]
 have e1:qv (r::R.drop (pos+1))=0:=by simp only[qv,if_pos hm]
 have e2:kz (r::R.drop (pos+1))=32:=by simp only[kz,if_pos hm]
 have e3:gu (r::R.drop (pos+1))=(R.drop pos).take k:=by unfold gu;rw[e1,Mc,<-e,hk]
 have bG:R.drop pos≠[]:=by rw[e];simp
 rw[<-h,gw bG];have c1:gX (R.drop pos)=enc (32::keep (R.drop pos) k):=by rw[e];simp only[gX,if_neg eq,e2,e3];rw[<-e];rfl
 have c2:gH (R.drop pos)=1:=by rw[e];simp only[gH,if_neg eq,e2];exact Hy
 have c3:jr (R.drop pos)=k:=by rw[e];simp only[jr,if_neg eq,e1,e3,cX,bC];omega
 rw[c1,c2,c3,tm];simp
theorem FQ{R}{pos k}{acc}{r}(hp:pos<R.length)(h:acc++cL (R.drop pos)=cL R)(hr:R[pos]=r)(eq:r≠10)(hm:gy r=false)(hk:zE (R.drop (pos+1))=(R.drop (pos+1)).take k)(dD:k<=(R.drop (pos+1)).length):
 (acc++[(enc (r::keep (R.drop (pos+1)) k),oI r)])++cL (R.drop (pos+1+k))=cL R:=by
 have OM:¬gy r=true:=by rw[hm];simp
 have e:R.drop pos=r::R.drop (pos+1):=by rw[tn hp,hr]
 have e1:qv (r::R.drop (pos+1))=1:=by simp only[qv,if_neg OM]
 have e2:kz (r::R.drop (pos+1))=r:=by simp only[kz,if_neg OM]
 have e3:gu (r::R.drop (pos+1))=(R.drop (pos+1)).take k:=by unfold gu;rw[e1];exact hk
 have bG:R.drop pos≠[]:=by rw[e];simp
 rw[<-h,gw bG];have c1:gX (R.drop pos)=enc (r::keep (R.drop (pos+1)) k):=by rw[e];simp only[gX,if_neg eq,e2,e3];rfl
 have c2:gH (R.drop pos)=oI r:=by rw[e];simp only[gH,if_neg eq,e2]
 have c3:jr (R.drop pos)=1+k:=by rw[e];simp only[jr,if_neg eq,e1,e3,cX];omega
 rw[c1,c2,c3,tm,Nat.add_assoc];simp
theorem KS{R:List Int}{pos k}{r}(hp:pos<R.length)(hr:R[pos]=r)(hm:gy r=true)(hk:zE (R.drop pos)=(R.drop pos).take k):1<=k:=by
 rcases Nat.eq_zero_or_pos k with e|e
 ·subst e;have e:R.drop pos=r::R.drop (pos+1):=by rw[tn hp,hr]
  simp_all[zE]
 omega
theorem rClusters_any(s:ByteArray)(w:World)(hs:s.size<=1099511627776):
 Cw 191 #[.string s] w fun e w'=>∃v,e=Rw v/\w'.ownsRow w.heap.size 316 2 v (cL (aZ s.data.toList)).length (dF (cL (aZ s.data.toList)))/\Bt w w':=by
 obtain⟨i0,hi,eK,fZ,iD⟩:=info_parts wU;have hR:=du s.data.toList;rw[sA]at hR;go_enter func191,ntmps191;go_wp2_with fail;refine(Ab s _ (by omega)).mono ?_;rintro e w1 ⟨v1,rfl,o1,b1⟩;obtain⟨R,hRe⟩:=aj (aZ s.data.toList);rw[hRe]at o1 hR;have HRe:=qH<|hRe;obtain⟨a,al,rfl,hh⟩:=lA o1;clear o1 hRe;have hs1:=b1.size;go_wp2;go_loopw[4,5] (fun v i wr=>∃(pos:Nat) (acc:List (List UInt8×Int)),i=Iq pos/\pos<=R.length/\wr.ownsRow w1.heap.size 316 2 v acc.length (dF acc)/\Bt w1 wr/\Hid (acc++cL (R.drop pos)=cL R)/\acc.length<=pos) (fun _ i _=>R.length-(intOf i).toNat);case atStart=>exact⟨0,[],rfl,bc _,gM _ _ _ _,ag _ _,rfl,ai _⟩
 case round=>
  obtain⟨pos,acc,rfl,CQ,bi,hbw,ic,xM⟩:=hrel;have fT:=hbw.size;by_cases hp:pos<R.length
  ·have ZQ:(pos:Int)<(R.length:Int):=by omega
   have bG:R≠[]:=fun e=>by grind
   obtain⟨b,off,rfl,hb,hc⟩:=hh.resolve_left bG;have HC:Hid (∀(wX:World),Bt w1 wX->∀j (hj:j<R.length),wX.cell? (az b (off+j))=some (Iq R[j])):=by intro wX hX j hj;rw[(hX.cell (p:=(az b (off+j))) hb),hc j hj,dN hj];rfl
   obtain⟨r,hr⟩:=aj (R[pos]);have tv:wr.cell? (az b (off+pos))=some (Iq r):=by have:=HC wr hbw pos hp;rw[hr]at this;exact this
   have HR:=qH<|hr;clear hh hc hr bG;by_cases eq:r=10
   ·have HS:=qH<|clus_ten hp ic (by rw[HR.out];exact eq);subst eq;clear ic HC HR;go_wp2_with(at_builtin;refine Jc hi eK fZ iD bi hbw [.string ⟨#[10]⟩,Iq 0] rfl _ _ rfl underlying291 ⟨rfl,by decide,by decide⟩ rfl rfl ⟨rfl,rfl⟩ (by omega) ?_);intro v' w9 bK SH;clear bi hbw;go_wp2;go_roundw;case rel=>refine⟨pos+1,acc++[([10],0)],by go_num,by omega,?_,SH,HS,by simp;omega⟩;rw[bf,fm];exact bK
    case measure=>simp[intOf];omega
   ·have tL:(r==10)=false:=by simp[eq]
    have Vw:Hid (r≠10):=eq;clear eq;have HX:∃(v:Int) (o:Nat) (c W:Int),oI r=v/\(v=0/\o=0/\c=32/\W=1\/(v==0)=false/\o=1/\c=r/\W=v)/\o<=1/\Hid (∀k,k<=(R.drop (pos+o)).length->zE (R.drop (pos+o))=(R.drop (pos+o)).take k->(acc++[(enc (c::keep (R.drop (pos+o)) k),W)])++cL (R.drop (pos+k+o))=cL R/\1<=k+o):=by
     by_cases hm:oI r=0;·have HM:=(nz r).2 ⟨Vw,hm⟩;exact⟨0,0,32,1,hm,.inl ⟨rfl,rfl,rfl,rfl⟩,by omega,fun k hk h=>⟨FS hp ic HR Vw HM h hk,KS hp HR HM h⟩⟩
     ·have HM:=(jQ r).2 (fun h=>hm h.2);refine⟨oI r,1,r,oI r,rfl,.inr ⟨by simp[hm],rfl,rfl,rfl⟩,by omega,fun k hk h=>⟨?_,by omega⟩⟩;have:=FQ (k:=k) hp ic HR Vw HM h hk;grind
    obtain⟨v,o,c,W,hv,qB,Te,HSX⟩:=HX;have HWd:Hid (∀w,Cw 212 #[Iq r] w fun e w'=>e=Rw (Iq v)/\Bt w w'):=by intro w;have:=mM r w;rw[hv]at this;exact this
    clear hv ic;rcases qB with⟨hv,ho,hc,hW⟩|⟨hv,ho,hc,hW⟩;all_goals
     have HO:=qH<|ho;have Ug:=qH<|hc;have R5:=qH<|hW;clear ho hc hW;try subst hv
     go_wp2_with fail;refine(HWd _).mono ?_;rintro e w2 ⟨rfl,b2⟩;have fj:=fJ bi b2;have lU:=hbw.trans (b2.mono fT);have zbK:w2.cell? (az b (off+pos))=some (Iq r):=by have:=HC w2 lU pos hp;rw[HR.out]at this;exact this
     clear b2 bi hbw tv;go_wp2_with fail;refine(qh _ _).mono ?_;rintro e w3 ⟨rfl,b3⟩;have Kj:=lU.size;have pQ:=fJ fj b3;have Cm:=lU.trans (b3.mono Kj);have zcJ:=Cm.size;clear b3 fj lU zbK;obtain⟨L,hL⟩:=aj (R.drop (pos+o));have oD:L.length+(pos+o)<=R.length:=by rw[<-hL,cW];omega
     have W8:R.length<=L.length+(pos+o):=by rw[<-hL,cW];omega
     have HL:=qH<|hL;have HLk:Hid (∀k (hk:k<L.length) (OK:pos+k+o<R.length),R[pos+k+o]=L[k]):=by
      intro k hk OK;have e:L[k]?=R[pos+k+o]?:=by rw[<-HL.out,Bb];congr 1;omega
      rw[dN hk,dN OK]at e;exact(lh e).symm
     clear hL;try rw[show Lib.encodeRune r=enc [r]by simp[enc]]
     go_wp2;go_loopw[5,7,8] (fun q tx m wr=>∃k:Nat,k<=L.length/\q=Iq (((pos+k+o:Nat):Int)-1)/\m=Iq k/\tx=.string ⟨(enc (c::keep L k)).toArray⟩/\Bt w3 wr/\Hid (∀j (hj:j<L.length),j<k->gy (L[j])=true)) (fun _ _ m _=>L.length-(intOf m).toNat);case atStart=>exact⟨0,bc _,by rw[HO.out];simp,rfl,by rw[Ug.out];rfl,ag _ _,fun j hj h=>by omega⟩
     case round=>
      obtain⟨k,hk,rfl,rfl,rfl,hbw,gR⟩:=hrel;have zcQ:=hbw.size;have Og:=Cm.trans (hbw.mono zcJ);have MV:=zw c L k hk;by_cases hlt:k<L.length
      ·have aK:((pos+k+o:Nat):Int)<(R.length:Int):=by omega
       obtain⟨x,hx⟩:=aj (L[k]);have HX:=qH<|hx;have HCX:Hid (∀(wX:World),Bt w1 wX->wX.cell? (az b (off+(pos+k+o)))=some (Iq x)):=by intro wX hX;have:=HC wX hX (pos+k+o) (by omega);rw[HLk k hlt (by omega),HX.out]at this;exact this
       have UR:=HCX wr Og;clear hx;by_cases GC:x=10
       ·have xH:Hid (zE L=L.take k):=eV gy _ k hk gR (fun hj=>by rw[HX.out,jQ,GC];simp);obtain⟨hS,Gl⟩:=HSX k (by rw[HL.out];exact hk) (by rw[HL.out];exact xH);rw[HL.out,R5.out]at hS;have HS:=qH<|hS;clear hS;have pR:=fJ pQ hbw;have Ya:(x !=10)=false:=by rw[GC];rfl
        obtain⟨TX,Bu⟩:=aj (enc (c::keep L k));rw[Bu]at HS;rw[Bu];clear GC gR HX Bu pQ Cm MV hbw;go_wp2_with(at_builtin;refine Jc hi eK fZ iD pR Og [.string ⟨TX.toArray⟩,Iq _] rfl _ _ rfl underlying291 ⟨rfl,by decide,by decide⟩ rfl rfl ⟨rfl,rfl⟩ (by omega) ?_);intro v' w9 bK SH;clear pR Og;go_wp2;go_roundw;case rel=>refine⟨pos+k+o,acc++[(TX,_)],by go_num,by omega,?_,SH,HS,by simp;omega⟩;rw[bf,fm];exact bK
        case measure=>simp[intOf];omega
       ·have Ya:(x !=10)=true:=by simp[GC]
        have zar:Hid (x≠10):=GC;clear GC;by_cases Vk:oI x=0
        ·have Qr:=qH<|(nz x).2 ⟨zar,Vk⟩;have Kd:Hid (∀j (hj:j<L.length),j<k+1->gy (L[j])=true):=by
          intro j hj h;by_cases ej:j=k;·subst ej;rw[HX.out];exact Qr
          ·exact gR j hj (by omega)
         have ND:Hid (∀w,Cw 212 #[Iq x] w fun e w'=>e=Rw (Iq 0)/\Bt w w'):=by intro w;have:=mM x w;rw[Vk]at this;exact this
         clear Vk gR;go_wp2_with fail;refine(ND _).mono ?_;rintro e w5 ⟨rfl,b5⟩;have Oy:=hbw.trans (b5.mono zcQ);have zbL:=HCX w5 (Og.trans (b5.mono (by omega)));have zcK:=Oy.size;clear b5 hbw Og UR;by_cases h4:k<4
         ·have h4':((k+1:Nat):Int)<=4:=by omega
          have YQ:Hid (enc (c::keep L (k+1))=enc (c::keep L k)++Lib.encodeRune x):=by show _=_;rw[zv _ _ hlt h4,HX.out,<-List.cons_append,FZ]
          go_wp2_with(go_at_call 213;refine(qh x _).mono ?_);rintro e w6 ⟨rfl,b6⟩;have hl4:=lR x;have zbD:=Oy.trans (b6.mono zcK);obtain⟨TX,Bu⟩:=aj (enc (c::keep L k));obtain⟨U,hU⟩:=aj (Lib.encodeRune x);rw[Bu,hU]at YQ;rw[Bu]at MV;rw[hU]at hl4;rw[Bu,hU];clear b6 Oy zbL Bu hU;go_wp2;go_roundw;case rel=>exact⟨k+1,by omega,by go_num,by go_num,by rw[YQ.out,<-AJ],zbD,Kd⟩
          case measure=>simp[intOf];omega
         ·have h4':¬((k+1:Nat):Int)<=4:=by omega
          have Ng:Hid (keep L (k+1)=keep L k):=uO _ _ (by omega);go_wp2;go_roundw;case rel=>exact⟨k+1,by omega,by go_num,by go_num,by rw[Ng.out],Oy,Kd⟩
          case measure=>simp[intOf];omega
        ·obtain⟨y,hy⟩:=aj (oI x);have Tu:(y==0)=false:=by rw[<-hy];simp[Vk]
         have ND:Hid (∀w,Cw 212 #[Iq x] w fun e w'=>e=Rw (Iq y)/\Bt w w'):=by intro w;have:=mM x w;rw[hy]at this;exact this
         have xH:Hid (zE L=L.take k):=eV gy _ k hk gR (fun hj=>by rw[HX.out,jQ];exact fun h=>Vk h.2);obtain⟨hS,Gl⟩:=HSX k (by rw[HL.out];exact hk) (by rw[HL.out];exact xH);rw[HL.out,R5.out]at hS;have HS:=qH<|hS;clear hS;have pR:=fJ pQ hbw;obtain⟨TX,Bu⟩:=aj (enc (c::keep L k));rw[Bu]at HS;rw[Bu];clear gR HX Bu pQ Cm MV hbw Vk hy;go_wp2_with fail;refine(ND _).mono ?_;rintro e w5 ⟨rfl,b5⟩;have ze:=fJ pR b5;have hB5:=Og.trans (b5.mono (by omega));have zkh:=hB5.size;clear b5 pR Og UR;go_wp2_with(at_builtin;refine Jc hi eK fZ iD ze hB5 [.string ⟨TX.toArray⟩,Iq _] rfl _ _ rfl underlying291 ⟨rfl,by decide,by decide⟩ rfl rfl ⟨rfl,rfl⟩ (by omega) ?_);intro v' w9 bK SH;clear ze hB5;go_wp2;go_roundw;case rel=>refine⟨pos+k+o,acc++[(TX,_)],by go_num,by omega,?_,SH,HS,by simp;omega⟩;rw[bf,fm];exact bK
         case measure=>simp[intOf];omega
      ·have aK:¬((pos+k+o:Nat):Int)<(R.length:Int):=by omega
       have xH:Hid (zE L=L.take k):=eV gy _ k hk gR (fun hj=>absurd hj hlt);obtain⟨hS,Gl⟩:=HSX k (by rw[HL.out];exact hk) (by rw[HL.out];exact xH);rw[HL.out,R5.out]at hS;have HS:=qH<|hS;clear hS;have pR:=fJ pQ hbw;obtain⟨TX,Bu⟩:=aj (enc (c::keep L k));rw[Bu]at HS;rw[Bu];clear gR Bu pQ Cm MV hbw;go_wp2_with(at_builtin;refine Jc hi eK fZ iD pR Og [.string ⟨TX.toArray⟩,Iq _] rfl _ _ rfl underlying291 ⟨rfl,by decide,by decide⟩ rfl rfl ⟨rfl,rfl⟩ (by omega) ?_);intro v' w9 bK SH;clear pR Og;go_wp2;go_roundw;case rel=>refine⟨pos+k+o,acc++[(TX,_)],by go_num,by omega,?_,SH,HS,by simp;omega⟩;rw[bf,fm];exact bK
       case measure=>simp[intOf];omega
  ·have ZQ:¬(pos:Int)<(R.length:Int):=by omega
   have e:=ic.out;rw[vr (by omega),kC,j_]at e;have HE:=qH<|e;clear e hh ic;go_wp2;go_ret;rw[HRe.out,<-HE.out];exact⟨_,rfl,ij bi hs1,b1.trans (hbw.mono hs1)⟩
theorem Ad(n:Nat)(w:World)(hn:n<=1099511627776):
 Cw 216 #[Iq n] w fun e w'=>e=Rw (.string ⟨(List.replicate n 32).toArray⟩)/\w'=w:=by
 go_enter func216,ntmps216;go_wp2;go_loop[3,4] (fun t i=>∃k:Nat,k<=n/\i=Iq k/\∃Y,t=.string ⟨Y⟩/\Hid (Y=(List.replicate k 32).toArray)/\Y.size=k) (fun _ i=>n-(intOf i).toNat);case atStart=>exact⟨0,bc _,rfl,_,rfl,rfl,rfl⟩
 case round=>
  obtain⟨k,hk,rfl,Y,rfl,HY,hY⟩:=hrel;by_cases hlt:k<n
  ·have aK:(k:Int)<(n:Int):=by omega
   go_wp2;go_round;case rel=>
    refine⟨k+1,by omega,by go_num,_,rfl,?_,?_⟩;·show _=_;rw[HY.out];grind
    grind
   case measure=>simp[intOf];omega
  ·have aK:¬(k:Int)<(n:Int):=by omega
   obtain rfl:k=n:=by omega
   go_wp2;go_ret;rw[HY.out];simp_all
theorem vf(l:List (List UInt8×Int))(v:Value)(w:World)(hcl:ri w v l)(bH:l.length<=1099511627776)(hj:(bJ l).length<=70368744177664):
 Cw 215 #[v] w fun e w'=>e=Rw (.string ⟨(bJ l).toArray⟩)/\w'=w:=by
 obtain⟨a,al,rfl,hh⟩:=hcl;have _L:=qH<|fun k=>kN l k;go_enter func215,ntmps215;go_wp2;go_loop[3,4] (fun t i=>∃k:Nat,k<=l.length/\i=Iq k/\t=.string ⟨(bJ (l.take k)).toArray⟩) (fun _ i=>l.length-(intOf i).toNat);case atStart=>exact⟨0,bc _,rfl,rfl⟩
 case round=>
  obtain⟨k,hk,rfl,rfl⟩:=hrel;by_cases hlt:k<l.length
  ·have aK:(k:Int)<(l.length:Int):=by omega
   have bG:l≠[]:=fun e=>by grind
   obtain⟨b,off,rfl,hb,hc⟩:=hh.resolve_left bG;obtain⟨T,V,jj⟩:∃T V,l[k]=(T,V):=⟨_,_,rfl⟩;have c0:w.cell? (az b (off+k*2))=some (.string ⟨T.toArray⟩):=by have:=(hc k hlt).1;rw[jj]at this;exact this
   have HS:Hid (bJ (l.take (k+1))=bJ (l.take k)++T):=by show _=_;rw[pT l k hlt,jj]
   have OJ:=_L (k+1);rw[HS.out,bf]at OJ;obtain⟨Y,hY⟩:=aj (bJ (l.take k));rw[hY]at HS OJ;rw[hY];clear hh hc jj bG hY;go_wp2;go_round;case rel=>exact⟨k+1,by omega,by go_num,by rw[HS.out,<-PM]⟩
   case measure=>simp[intOf];omega
  ·have aK:¬(k:Int)<(l.length:Int):=by omega
   have HE:Hid (l.take k=l):=gt (by omega);clear hh;go_wp2;go_ret;rw[HE.out];simp_all
theorem nZ(l:List (List UInt8×Int))(v:Value)(W:Int)(w:World)(hcl:ri w v l)(hbd:∀c∈l,0<=c.2/\c.2<=2)(bH:l.length<=1099511627776):
 Cw 214 #[v,Iq W] w fun e w'=>e=Rw (Iq (e_ l W))/\w'=w:=by
 obtain⟨a,al,rfl,hh⟩:=hcl;have iW:=qH<|hbd;clear hbd;go_enter func214,ntmps214;go_wp2;go_loop[5,6] (fun i x=>∃k:Nat,k<=l.length/\i=Iq k/\x=Iq (aF (l.take k))/\Hid (Fit l W k)) (fun i _=>l.length-(intOf i).toNat);case atStart=>exact⟨0,bc _,rfl,rfl,fun j hj=>by omega⟩
 case round=>
  obtain⟨k,hk,rfl,rfl,rZ⟩:=hrel;have hwb:=dR l iW k;by_cases hlt:k<l.length
  ·have aK:(k:Int)<(l.length:Int):=by omega
   have bG:l≠[]:=fun e=>by grind
   obtain⟨b,off,rfl,hb,hc⟩:=hh.resolve_left bG;obtain⟨T,V,jj⟩:∃T V,l[k]=(T,V):=⟨_,_,rfl⟩;have hV:=iW l[k] (l6 hlt);have c0:w.cell? (az b (off+k*2))=some (.string ⟨T.toArray⟩):=by have:=(hc k hlt).1;rw[jj]at this;exact this
   have c1:w.cell? (az b (off+k*2+1))=some (Iq V):=by have:=(hc k hlt).2;rw[jj]at this;exact this
   have HS:Hid (aF (l.take (k+1))=aF (l.take k)+V):=by show _=_;rw[dS l k hlt,jj]
   have HX:Hid (tx l k=T):=by show _=_;rw[vk hlt,jj]
   rw[jj]at hV;obtain⟨X,hX⟩:=aj (aF (l.take k));rw[hX]at HS hwb;rw[hX];simp only at hV;clear hh hc jj hX bG;by_cases eq:T=[10]
   ·have HE:=qH<|fitN_stop l W k hk rZ (fun _=>.inl (by rw[HX.out,eq]));have tL:(T==[10])=true:=by rw[eq];rfl
    go_wp2;go_ret;rw[HE.out];simp_all
   ·have tL:(T==[10])=false:=by simpa using eq
    by_cases yU:X+V<=W
    ·have HF:Hid (Fit l W (k+1)):=fun j hj=>by
      by_cases e:j=k;·subst e;rw[HX.out,HS.out];grind
      ·exact rZ j (by omega)
     go_wp2;go_round;case rel=>exact⟨k+1,by omega,by go_num,by rw[HS.out],HF⟩
     case measure=>simp[intOf];omega
    ·have HE:=qH<|fitN_stop l W k hk rZ (fun _=>.inr (by rw[HS.out];omega));go_wp2;go_ret;rw[HE.out];simp_all
  ·have aK:¬(k:Int)<(l.length:Int):=by omega
   have HE:=qH<|fitN_stop l W k hk rZ (fun h=>absurd h hlt);clear hh;go_wp2;go_ret;rw[HE.out];simp_all
theorem pB(l:List (List UInt8×Int))(v:Value)(w:World)(hcl:ri w v l)(hbd:∀c∈l,0<=c.2/\c.2<=2)(bH:l.length<=1099511627776):
 Cw 210 #[v] w fun e w'=>e=Rw (Iq (aF l))/\w'=w:=by
 obtain⟨a,al,rfl,hh⟩:=hcl;have iW:=qH<|hbd;clear hbd;go_enter func210,ntmps210;go_wp2;go_loop[3,4] (fun t i=>∃k:Nat,k<=l.length/\i=Iq k/\t=Iq (aF (l.take k))) (fun _ i=>l.length-(intOf i).toNat);case atStart=>exact⟨0,bc _,rfl,rfl⟩
 case round=>
  obtain⟨k,hk,rfl,rfl⟩:=hrel;have hwb:=dR l iW k;by_cases hlt:k<l.length
  ·have aK:(k:Int)<(l.length:Int):=by omega
   have bG:l≠[]:=fun e=>by grind
   obtain⟨b,off,rfl,hb,hc⟩:=hh.resolve_left bG;obtain⟨T,V,jj⟩:∃T V,l[k]=(T,V):=⟨_,_,rfl⟩;have hV:=iW l[k] (l6 hlt);have c1:w.cell? (az b (off+k*2+1))=some (Iq V):=by have:=(hc k hlt).2;rw[jj]at this;exact this
   have HS:Hid (aF (l.take (k+1))=aF (l.take k)+V):=by show _=_;rw[dS l k hlt,jj]
   rw[jj]at hV;obtain⟨X,hX⟩:=aj (aF (l.take k));rw[hX]at HS hwb;rw[hX];simp only at hV;clear hh hc jj hX bG;go_wp2;go_round;case rel=>exact⟨k+1,by omega,by go_num,by rw[HS.out]⟩
   case measure=>simp[intOf];omega
  ·have aK:¬(k:Int)<(l.length:Int):=by omega
   have HE:Hid (l.take k=l):=gt (by omega);clear hh;go_wp2;go_ret;rw[HE.out];simp_all
theorem xh(s:ByteArray)(w:World)(hs:s.size<=1099511627776):
 Cw 190 #[.string s] w fun e w'=>e=Rw (Iq (aF (cL (aZ s.data.toList))))/\Bt w w':=by
 have uM:s.data.toList.length=s.size:=by rw[j9];rfl
 have hR:=du s.data.toList;have hC:=fM (aZ s.data.toList);rw[uM]at hR;have hbd:=jv (aZ s.data.toList);have G:Hid (Cw 191 #[.string s] w fun e w'=>∃v,e=Rw v/\ri w' v (cL (aZ s.data.toList))/\Bt w w'):=by refine(rClusters_any s w hs).mono ?_;rintro e w1 ⟨v,rfl,o,b⟩;exact⟨v,rfl,wm o,b⟩
 obtain⟨l,hl⟩:=aj (cL (aZ s.data.toList));rw[hl]at G hC hbd⊢;have iW:=qH<|hbd;clear hl uM hbd;go_enter func190,ntmps190;go_wp2_with fail;refine G.mono ?_;rintro e w1 ⟨v1,rfl,c1,b1⟩;have HC:=qH<|c1;clear c1 G;go_wp2_with fail;refine(pB l v1 w1 HC iW (by omega)).mono ?_;rintro e w2 ⟨rfl,rfl⟩;go_wp2;go_ret;simp_all
