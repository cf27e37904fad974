import Derived.Test.YtiaimhjebnobnaaGreatDoorQ31
set_option linter.all false
set_option maxRecDepth 100000
set_option maxHeartbeats 16000000
namespace Go.Proofs.YtiaimhjebnobnaaGreatDoor
open Go.RowKit Go.Proofs.Tryz
def oM(w:World)(v:Value)(l:List (List UInt8×Int)):Prop:=
 ∃a cap,v=.slice a l.length cap/\(l=[]\/∃b off,a=some (az b off)/\b<w.heap.size/\∀j (hj:j<l.length),w.cell? (az b (off+j*2))=some (.string ⟨(l[j]).1.toArray⟩)/\w.cell? (az b (off+j*2+1))=some (Iq (l[j]).2))
theorem oM.below{w w'}{v}{l}(h:oM w v l)(hb:Bt w w'):oM w' v l:=by
 obtain⟨a,cap,rfl,hh⟩:=h;refine⟨a,cap,rfl,?_⟩;rcases hh with rfl|⟨b,off,rfl,hl,hc⟩;·grind
 ·exact .inr ⟨b,off,rfl,zz008 hl hb.size,fun j hj=>⟨(hb.cell (p:=(az b (off+j*2))) hl).trans (hc j hj).1,(hb.cell (p:=(az b (off+j*2+1))) hl).trans (hc j hj).2⟩⟩
theorem oq  l  :(eE l).length=l.length*2:=by
 induction l with
 |nil=>rfl
 |cons c l ih=>grind[eE]
theorem Kf  l   j  (hj:j<l.length):(eE l)[j*2]?=some (.string ⟨(l[j]).1.toArray⟩)/\(eE l)[j*2+1]?=some (Iq (l[j]).2):=by
 induction l generalizing j with
 |nil=>grind
 |cons c l ih=>have e:eE (c::l)=.string ⟨c.1.toArray⟩::Iq c.2::eE l:=rfl;grind
theorem t_{w}{B n}{e}{v}{l}(h:w.ownsRow B e 2 v n (eE l)):oM w v l:=by
 have hl:l.length=n:=by have:=h.1;rw[oq]at this;omega
 rcases h.2 with⟨rfl,rfl⟩|⟨g,cap,ik,rfl,_,hg,_⟩;·have hz:=ln.1 hl;subst hz;exact⟨none,0,rfl,.inl rfl⟩
 ·refine⟨some (az g 0),cap,by rw[hl],.inr ⟨g,0,rfl,(aM.1 hg).1,fun j hj=>?_⟩⟩;have c:=Kf l j hj;have a0:=h.cells (g:=g) rfl (j*2) _ c.1;have a1:=h.cells (g:=g) rfl (j*2+1) _ c.2;have e0:((az g 0):Addr).add (j*2)=(az g (0+j*2)):=by unfold Addr.add;split<;>simp_all
  have e1:((az g 0):Addr).add (j*2+1)=(az g (0+j*2+1)):=by unfold Addr.add;split<;>simp_all
  grind
theorem fitting_any(l:List (List UInt8×Int))(v:Value)(W:Int)(w:World)(hcl:oM w v l)(hbd:∀c∈l,0<=c.2/\c.2<=2)(bY:l.length<=1099511627776)(cK:-9223372036854775808<=W)(cC:W<=9223372036854775807):
 Cw 191 #[v,Iq W] w fun e w'=>e=Rw (Iq (dy l W))/\Bt w w':=by
 obtain⟨a,cap,rfl,hh⟩:=hcl;have iM:=qH<|hbd;clear hbd;go_enter func191,ntmps191;go_wp2;go_loopw[1,9] (fun x i wr=>∃k:Nat,k<=l.length/\i=Iq k/\x=Iq (W-ap (l.take k))/\Hid (Fit l W k)/\Bt w wr) (fun _ i _=>l.length-(intOf i).toNat);case atStart=>exact⟨0,aZ _,rfl,by simp[ap],fun j hj=>by omega,aj _ _⟩
 case round=>
  obtain⟨k,hk,rfl,rfl,ro,hbw⟩:=hrel;have hwb:=cJ l iM k;have hwW:k=0\/ap (l.take k)<=W:=by
   cases k with
   |zero=>omega
   |succ k=>exact .inr (ro k (by omega)).2
  have hw0:k=0->ap (l.take k)=0:=fun e=>by omega
  have f_:=hbw.size;by_cases hlt:k<l.length
  ·have aN:(k:Int)<(l.length:Int):=by omega
   have bZ:l≠[]:=fun e=>by grind
   obtain⟨b,off,rfl,hb,hc⟩:=hh.resolve_left bZ;obtain⟨T,V,iT⟩:∃T V,l[k]=(T,V):=⟨_,_,rfl⟩;have hV:=iM l[k] (lX hlt);have c0:wr.cell? (az b (off+k*2))=some (.string ⟨T.toArray⟩):=by have:=(hc k hlt).1;rw[iT]at this;exact(hbw.cell (p:=(az b (off+k*2))) hb).trans this
   have c1:wr.cell? (az b (off+k*2+1))=some (Iq V):=by have:=(hc k hlt).2;rw[iT]at this;exact(hbw.cell (p:=(az b (off+k*2+1))) hb).trans this
   have HS:Hid (ap (l.take (k+1))=ap (l.take k)+V):=by show _=_;rw[dY l k hlt,iT]
   have HX:Hid (tx l k=T):=by show _=_;rw[wQ hlt,iT]
   rw[iT]at hV;obtain⟨X,hX⟩:=ag (ap (l.take k));rw[hX]at HS hwb hwW hw0;rw[hX];simp only at hV;have MQ:-9223372036854775808<=W-X:=by omega
   have hr1:W-X<=9223372036854775807:=by omega
   clear hh hc iT hX bZ;by_cases dI:T=[10]
   ·have HE:=qH<|fitN_stop l W k hk ro (fun _=>.inl (by rw[HX.out,dI]));have pT:(T==[10])=true:=by rw[dI];rfl
    go_wp2;go_ret;rw[HE.out];exact⟨rfl,hbw.alloc f_ _⟩
   ·have pT:(T==[10])=false:=by simpa using dI
    by_cases Di:W-X<V;·have HE:=qH<|fitN_stop l W k hk ro (fun _=>.inr (by rw[HS.out];omega));go_wp2;go_ret;rw[HE.out];exact⟨rfl,hbw.alloc f_ _⟩
    ·have HF:Hid (Fit l W (k+1)):=fun j hj=>by
      by_cases e:j=k;·subst e;rw[HX.out,HS.out];grind
      ·exact ro j (by omega)
     go_wp2;go_roundw;case rel=>exact⟨k+1,by omega,by go_num,by rw[HS.out];grind,HF,hbw.alloc f_ _⟩
     case measure=>simp[intOf];omega
  ·have aN:¬(k:Int)<(l.length:Int):=by omega
   have HE:=qH<|fitN_stop l W k hk ro (fun h=>absurd h hlt);have dj:k=l.length:=by omega
   clear hh;go_wp2;go_ret;rw[HE.out];simp_all
theorem xO(l:List (List UInt8×Int))(v:Value)(w:World)(hcl:oM w v l)(bY:l.length<=1099511627776):
 Cw 236 #[v] w fun e w'=>e=Rw (Iq (dA l l.length))/\Bt w w':=by
 obtain⟨a,cap,rfl,hh⟩:=hcl;go_enter func236,ntmps236;go_wp2;go_loopw[3] (fun i wr=>∃k:Nat,k<=l.length/\i=Iq ((k:Int)-1)/\Hid (dA l l.length=dA l k)/\Bt w wr) (fun i _=>(intOf i+1).toNat);case atStart=>exact⟨l.length,ai _,rfl,rfl,aj _ _⟩
 case round=>
  obtain⟨k,hk,rfl,hE,hbw⟩:=hrel;have f_:=hbw.size;cases k with
  |zero=>clear hh;go_wp2;go_ret;rw[hE.out];exact⟨rfl,hbw⟩
  |succ k=>
   have hlt:k<l.length:=by omega
   have bZ:l≠[]:=fun e=>by grind
   obtain⟨b,off,rfl,hb,hc⟩:=hh.resolve_left bZ;obtain⟨T,V,iT⟩:∃T V,l[k]=(T,V):=⟨_,_,rfl⟩;have c0:wr.cell? (az b (off+k*2))=some (.string ⟨T.toArray⟩):=by have:=(hc k hlt).1;rw[iT]at this;exact(hbw.cell (p:=(az b (off+k*2))) hb).trans this
   have HX:Hid (tx l k=T):=by show _=_;rw[wQ hlt,iT]
   have ru:((k+1:Nat):Int)-1=(k:Int):=by omega
   rw[ru];clear hh hc iT bZ;by_cases Dd:T=[32]
   ·have HE:Hid (dA l l.length=k):=by show _=_;rw[hE.out];simp only[dA];rw[if_pos (by rw[HX.out,Dd])]
    have T0:(T==[32])=true:=by rw[Dd];rfl
    go_wp2;go_ret;rw[HE.out];simp_all
   ·have T0:(T==[32])=false:=by simpa using Dd
    have HE:Hid (dA l l.length=dA l k):=by show _=_;rw[hE.out];simp only[dA];rw[if_neg (by rw[HX.out];exact Dd)]
    go_wp2;go_roundw;case rel=>grind
    case measure=>simp[intOf]
theorem sd(s:ByteArray)(w:World)(ht:cG w)(hs:s.size<=1099511627776):
 Cw 156 #[.string s] w fun e w'=>e=Rw (Iq (ap (a_ (aD s.data.toList))))/\Bt w w':=by
 have lq:s.data.toList.length=s.size:=by rw[fV];rfl
 have hR:=bK s.data.toList;have hC:=cE (aD s.data.toList);rw[lq]at hR;have hbd:=dO (aD s.data.toList);have G:Hid (Cw 151 #[.string s] w fun e w'=>∃v,e=Rw v/\oM w' v (a_ (aD s.data.toList))/\Bt w w'):=by refine(iO s w ht hs).mono ?_;rintro e w1 ⟨v,rfl,o,b⟩;exact⟨v,rfl,t_ o,b⟩
 obtain⟨l,hl⟩:=ag (a_ (aD s.data.toList));rw[hl]at G hC hbd;have HL:=qH<|hl;have iM:=qH<|hbd;clear hl lq ht hbd;go_enter func156,ntmps156;go_wp2_with fail;refine G.mono ?_;rintro e w1 ⟨v1,rfl,⟨a,cap,rfl,hh⟩,b1⟩;have hs1:=b1.size;clear G;go_wp2;go_loopw[3,9] (fun t i wr=>∃k:Nat,k<=l.length/\i=Iq k/\t=Iq (ap (l.take k))/\Bt w1 wr) (fun _ i _=>l.length-(intOf i).toNat);case atStart=>exact⟨0,aZ _,rfl,rfl,aj _ _⟩
 case round=>
  obtain⟨k,hk,rfl,rfl,hbw⟩:=hrel;have hwb:=cJ l iM k;have f_:=hbw.size;by_cases hlt:k<l.length
  ·have aN:(k:Int)<(l.length:Int):=by omega
   have bZ:l≠[]:=fun e=>by grind
   obtain⟨b,off,rfl,hb,hc⟩:=hh.resolve_left bZ;obtain⟨T,W,OO⟩:∃T W,l[k]=(T,W):=⟨_,_,rfl⟩;have hW:=iM l[k] (lX hlt);have c0:wr.cell? (az b (off+k*2))=some (.string ⟨T.toArray⟩):=by have:=(hc k hlt).1;rw[OO]at this;exact(hbw.cell (p:=(az b (off+k*2))) hb).trans this
   have c1:wr.cell? (az b (off+k*2+1))=some (Iq W):=by have:=(hc k hlt).2;rw[OO]at this;exact(hbw.cell (p:=(az b (off+k*2+1))) hb).trans this
   have HS:Hid (ap (l.take (k+1))=ap (l.take k)+W):=by show _=_;rw[dY l k hlt,OO]
   rw[OO]at hW;obtain⟨X,hX⟩:=ag (ap (l.take k));rw[hX]at HS hwb;rw[hX];simp only at hW;clear hh hc OO hX bZ;go_wp2;go_roundw;case rel=>exact⟨k+1,by omega,by go_num,by rw[HS.out],hbw.alloc f_ _⟩
   case measure=>simp[intOf];omega
  ·have aN:¬(k:Int)<(l.length:Int):=by omega
   have HE:Hid (l.take k=l):=gV (by omega);clear hh;go_wp2;go_ret;rw[HL.out,HE.out];exact⟨rfl,b1.trans (hbw.mono hs1)⟩
theorem EI(a b:List UInt8):(⟨a.toArray⟩:ByteArray)++(⟨b.toArray⟩:ByteArray)=⟨(a++b).toArray⟩:=by apply nh;simp
theorem Aj:(prog.info? 163).map (fun i=>(i.zero,i.size,i.bytes))=some (some (.agg #[.string ⟨#[]⟩,Iq 0]),2,24):=by kernel_rfl
theorem KB  l   x  :enc (l++[x])=enc l++Lib.encodeRune x:=by simp[enc]
theorem DC  b   L   k  (h:k<=L.length):(enc (b::keep L k)).length<=20:=by grind[zX,keep,mQ]
theorem clus_ten{R}{pos}{acc}(hp:pos<R.length)(h:acc++a_ (R.drop pos)=a_ R)(hr:R[pos]=10):
 (acc++[([10],0)])++a_ (R.drop (pos+1))=a_ R:=by
 have e:R.drop pos=10::R.drop (pos+1):=by rw[wY hp,hr]
 grind[a_,dN,fE,fF,iq]
theorem Km{R}{pos k}{acc}{r}(hp:pos<R.length)(h:acc++a_ (R.drop pos)=a_ R)(hr:R[pos]=r)(dI:r≠10)(hm:eZ r=true)(hk:xm (R.drop pos)=(R.drop pos).take k)(dj:k<=(R.drop pos).length):
 (acc++[(enc (32::keep (R.drop pos) k),1)])++a_ (R.drop (pos+k))=a_ R:=by
 have e:R.drop pos=r::R.drop (pos+1):=by rw[wY hp,hr]
 have e1:od (r::R.drop (pos+1))=0:=by simp only[od,if_pos hm]
 have e2:fm (r::R.drop (pos+1))=32:=by simp only[fm,if_pos hm]
 have e3:dH (r::R.drop (pos+1))=(R.drop pos).take k:=by unfold dH;rw[e1,RJ,<-e,hk]
 have bZ:R.drop pos≠[]:=by rw[e];simp
 rw[<-h,dN bZ];have c1:fE (R.drop pos)=enc (32::keep (R.drop pos) k):=by rw[e];simp only[fE,if_neg dI,e2,e3];rw[<-e];rfl
 have c2:fF (R.drop pos)=1:=by rw[e];simp only[fF,if_neg dI,e2];exact rX
 have c3:iq (R.drop pos)=k:=by rw[e];simp only[iq,if_neg dI,e1,e3,cX,bM];omega
 rw[c1,c2,c3,xd];simp
theorem Kl{R}{pos k}{acc}{r}(hp:pos<R.length)(h:acc++a_ (R.drop pos)=a_ R)(hr:R[pos]=r)(dI:r≠10)(hm:eZ r=false)(hk:xm (R.drop (pos+1))=(R.drop (pos+1)).take k)(dj:k<=(R.drop (pos+1)).length):
 (acc++[(enc (r::keep (R.drop (pos+1)) k),lW r)])++a_ (R.drop (pos+1+k))=a_ R:=by
 have MK:¬eZ r=true:=by rw[hm];simp
 have e:R.drop pos=r::R.drop (pos+1):=by rw[wY hp,hr]
 have e1:od (r::R.drop (pos+1))=1:=by simp only[od,if_neg MK]
 have e2:fm (r::R.drop (pos+1))=r:=by simp only[fm,if_neg MK]
 have e3:dH (r::R.drop (pos+1))=(R.drop (pos+1)).take k:=by unfold dH;rw[e1];exact hk
 have bZ:R.drop pos≠[]:=by rw[e];simp
 rw[<-h,dN bZ];have c1:fE (R.drop pos)=enc (r::keep (R.drop (pos+1)) k):=by rw[e];simp only[fE,if_neg dI,e2,e3];rfl
 have c2:fF (R.drop pos)=lW r:=by rw[e];simp only[fF,if_neg dI,e2]
 have c3:iq (R.drop pos)=1+k:=by rw[e];simp only[iq,if_neg dI,e1,e3,cX];omega
 rw[c1,c2,c3,xd,Nat.add_assoc];simp
theorem Qa{R:List Int}{pos k}{r}(hp:pos<R.length)(hr:R[pos]=r)(hm:eZ r=true)(hk:xm (R.drop pos)=(R.drop pos).take k):1<=k:=by
 rcases Nat.eq_zero_or_pos k with e|e
 ·subst e;have e:R.drop pos=r::R.drop (pos+1):=by rw[wY hp,hr]
  simp_all[xm]
 omega
theorem rClusters_any(s:ByteArray)(w:World)(hs:s.size<=1099511627776):
 Cw 89 #[.string s] w fun e w'=>∃v,e=Rw v/\w'.ownsRow w.heap.size 163 2 v (a_ (aD s.data.toList)).length (eE (a_ (aD s.data.toList)))/\Bt w w':=by
 obtain⟨i0,hi,eG,fs,gd⟩:=info_parts Aj;have hR:=bK s.data.toList;rw[vC]at hR;go_enter func89,ntmps89;go_wp2_with fail;refine(El s _ (by omega)).mono ?_;rintro e w1 ⟨v1,rfl,o1,b1⟩;obtain⟨R,hRe⟩:=ag (aD s.data.toList);rw[hRe]at o1 hR;have HRe:=qH<|hRe;obtain⟨a,cap,rfl,hh⟩:=nG o1;clear o1 hRe;have hs1:=b1.size;go_wp2;go_loopw[4,5] (fun v i wr=>∃(pos:Nat) (acc:List (List UInt8×Int)),i=Iq pos/\pos<=R.length/\wr.ownsRow w1.heap.size 163 2 v acc.length (eE acc)/\Bt w1 wr/\Hid (acc++a_ (R.drop pos)=a_ R)/\acc.length<=pos) (fun _ i _=>R.length-(intOf i).toNat);case atStart=>exact⟨0,[],rfl,aZ _,gF _ _ _ _,aj _ _,rfl,ai _⟩
 case round=>
  obtain⟨pos,acc,rfl,Gt,bu,hbw,jp,tC⟩:=hrel;have f_:=hbw.size;by_cases hp:pos<R.length
  ·have hp':(pos:Int)<(R.length:Int):=by omega
   have bZ:R≠[]:=fun e=>by grind
   obtain⟨b,off,rfl,hb,hc⟩:=hh.resolve_left bZ;have HC:Hid (∀(wX:World),Bt w1 wX->∀j (hj:j<R.length),wX.cell? (az b (off+j))=some (Iq R[j])):=by intro wX hX j hj;rw[(hX.cell (p:=(az b (off+j))) hb),hc j hj,eR hj];rfl
   obtain⟨r,hr⟩:=ag (R[pos]);have xf:wr.cell? (az b (off+pos))=some (Iq r):=by have:=HC wr hbw pos hp;rw[hr]at this;exact this
   have HR:=qH<|hr;clear hh hc hr bZ;by_cases dI:r=10
   ·have HS:=qH<|clus_ten hp jp (by rw[HR.out];exact dI);subst dI;clear jp HC HR;go_wp2_with(at_builtin;refine MB hi eG fs gd bu hbw [.string ⟨#[10]⟩,Iq 0] rfl _ _ rfl underlying158 ⟨rfl,by decide,by decide⟩ rfl rfl ⟨rfl,rfl⟩ (by omega) ?_);intro v' w9 bD YS;clear bu hbw;go_wp2;go_roundw;case rel=>refine⟨pos+1,acc++[([10],0)],by go_num,by omega,?_,YS,HS,by simp;omega⟩;rw[bm,gx];exact bD
    case measure=>simp[intOf];omega
   ·have pT:(r==10)=false:=by simp[dI]
    have H10:Hid (r≠10):=dI;clear dI;have HX:∃(v:Int) (o:Nat) (c W:Int),lW r=v/\(v=0/\o=0/\c=32/\W=1\/(v==0)=false/\o=1/\c=r/\W=v)/\o<=1/\Hid (∀k,k<=(R.drop (pos+o)).length->xm (R.drop (pos+o))=(R.drop (pos+o)).take k->(acc++[(enc (c::keep (R.drop (pos+o)) k),W)])++a_ (R.drop (pos+k+o))=a_ R/\1<=k+o):=by
     by_cases hm:lW r=0;·have HM:=(pY r).2 ⟨H10,hm⟩;exact⟨0,0,32,1,hm,.inl ⟨rfl,rfl,rfl,rfl⟩,by omega,fun k hk h=>⟨Km hp jp HR H10 HM h hk,Qa hp HR HM h⟩⟩
     ·have HM:=(fJ r).2 (fun h=>hm h.2);refine⟨lW r,1,r,lW r,rfl,.inr ⟨by simp[hm],rfl,rfl,rfl⟩,by omega,fun k hk h=>⟨?_,by omega⟩⟩;have:=Kl (k:=k) hp jp HR H10 HM h hk;grind
    obtain⟨v,o,c,W,hv,pB,Zf,HSX⟩:=HX;have HWd:Hid (∀w,Cw 165 #[Iq r] w fun e w'=>e=Rw (Iq v)/\Bt w w'):=by intro w;have:=pf r w;rw[hv]at this;exact this
    clear hv jp;rcases pB with⟨hv,ho,hc,hW⟩|⟨hv,ho,hc,hW⟩;all_goals
     have HO:=qH<|ho;have _m:=qH<|hc;have Yf:=qH<|hW;clear ho hc hW;try subst hv
     go_wp2_with fail;refine(HWd _).mono ?_;rintro e w2 ⟨rfl,b2⟩;have gq:=gO bu b2;have oy:=hbw.trans (b2.mono f_);have zhO:w2.cell? (az b (off+pos))=some (Iq r):=by have:=HC w2 oy pos hp;rw[HR.out]at this;exact this
     clear b2 bu hbw xf;go_wp2_with fail;refine(nf _ _).mono ?_;rintro e w3 ⟨rfl,b3⟩;have Pn:=oy.size;have sy:=gO gq b3;have Gc:=oy.trans (b3.mono Pn);have ziK:=Gc.size;clear b3 gq oy zhO;obtain⟨L,hL⟩:=ag (R.drop (pos+o));have qQ:L.length+(pos+o)<=R.length:=by rw[<-hL,dq];omega
     have hL2:R.length<=L.length+(pos+o):=by rw[<-hL,dq];omega
     have HL:=qH<|hL;have HLk:Hid (∀k (hk:k<L.length) (I2:pos+k+o<R.length),R[pos+k+o]=L[k]):=by
      intro k hk I2;have e:L[k]?=R[pos+k+o]?:=by rw[<-HL.out,Fc];congr 1;omega
      rw[eR hk,eR I2]at e;exact(ng e).symm
     clear hL;try rw[show Lib.encodeRune r=enc [r]by simp[enc]]
     go_wp2;go_loopw[5,7,8] (fun q tx m wr=>∃k:Nat,k<=L.length/\q=Iq (((pos+k+o:Nat):Int)-1)/\m=Iq k/\tx=.string ⟨(enc (c::keep L k)).toArray⟩/\Bt w3 wr/\Hid (∀j (hj:j<L.length),j<k->eZ (L[j])=true)) (fun _ _ m _=>L.length-(intOf m).toNat);case atStart=>exact⟨0,aZ _,by rw[HO.out];simp,rfl,by rw[_m.out];rfl,aj _ _,fun j hj h=>by omega⟩
     case round=>
      obtain⟨k,hk,rfl,rfl,rfl,hbw,iU⟩:=hrel;have ziS:=hbw.size;have T6:=Gc.trans (hbw.mono ziK);have O2:=DC c L k hk;by_cases hlt:k<L.length
      ·have aN:((pos+k+o:Nat):Int)<(R.length:Int):=by omega
       obtain⟨x,hx⟩:=ag (L[k]);have HX:=qH<|hx;have HCX:Hid (∀(wX:World),Bt w1 wX->wX.cell? (az b (off+(pos+k+o)))=some (Iq x)):=by intro wX hX;have:=HC wX hX (pos+k+o) (by omega);rw[HLk k hlt (by omega),HX.out]at this;exact this
       have YZ:=HCX wr T6;clear hx;by_cases Lk:x=10
       ·have Bn:Hid (xm L=L.take k):=fR eZ _ k hk iU (fun hj=>by rw[HX.out,fJ,Lk];simp);obtain⟨hS,Ag⟩:=HSX k (by rw[HL.out];exact hk) (by rw[HL.out];exact Bn);rw[HL.out,Yf.out]at hS;have HS:=qH<|hS;clear hS;have sA:=gO sy hbw;have zdk:(x !=10)=false:=by rw[Lk];rfl
        obtain⟨TX,Fs⟩:=ag (enc (c::keep L k));rw[Fs]at HS;rw[Fs];clear Lk iU HX Fs sy Gc O2 hbw;go_wp2_with(at_builtin;refine MB hi eG fs gd sA T6 [.string ⟨TX.toArray⟩,Iq _] rfl _ _ rfl underlying158 ⟨rfl,by decide,by decide⟩ rfl rfl ⟨rfl,rfl⟩ (by omega) ?_);intro v' w9 bD YS;clear sA T6;go_wp2;go_roundw;case rel=>refine⟨pos+k+o,acc++[(TX,_)],by go_num,by omega,?_,YS,HS,by simp;omega⟩;rw[bm,gx];exact bD
        case measure=>simp[intOf];omega
       ·have zdk:(x !=10)=true:=by simp[Lk]
        have zgD:Hid (x≠10):=Lk;clear Lk;by_cases hxw:lW x=0
        ·have Wl:=qH<|(pY x).2 ⟨zgD,hxw⟩;have Pc:Hid (∀j (hj:j<L.length),j<k+1->eZ (L[j])=true):=by
          intro j hj h;by_cases ej:j=k;·subst ej;rw[HX.out];exact Wl
          ·exact iU j hj (by omega)
         have Tp:Hid (∀w,Cw 165 #[Iq x] w fun e w'=>e=Rw (Iq 0)/\Bt w w'):=by intro w;have:=pf x w;rw[hxw]at this;exact this
         clear hxw iU;go_wp2_with fail;refine(Tp _).mono ?_;rintro e w5 ⟨rfl,b5⟩;have Ui:=hbw.trans (b5.mono ziS);have zhP:=HCX w5 (T6.trans (b5.mono (by omega)));have ziL:=Ui.size;clear b5 hbw T6 YZ;by_cases h4:k<4
         ·have h4':((k+1:Nat):Int)<=4:=by omega
          have HKA:Hid (enc (c::keep L (k+1))=enc (c::keep L k)++Lib.encodeRune x):=by show _=_;rw[DB _ _ hlt h4,HX.out,<-List.cons_append,KB]
          go_wp2_with(go_at_call 94;refine(nf x _).mono ?_);rintro e w6 ⟨rfl,b6⟩;have hl4:=ou x;have zhJ:=Ui.trans (b6.mono ziL);obtain⟨TX,Fs⟩:=ag (enc (c::keep L k));obtain⟨U,hU⟩:=ag (Lib.encodeRune x);rw[Fs,hU]at HKA;rw[Fs]at O2;rw[hU]at hl4;rw[Fs,hU];clear b6 Ui zhP Fs hU;go_wp2;go_roundw;case rel=>exact⟨k+1,by omega,by go_num,by go_num,by rw[HKA.out,<-EI],zhJ,Pc⟩
          case measure=>simp[intOf];omega
         ·have h4':¬((k+1:Nat):Int)<=4:=by omega
          have S8:Hid (keep L (k+1)=keep L k):=yF _ _ (by omega);go_wp2;go_roundw;case rel=>exact⟨k+1,by omega,by go_num,by go_num,by rw[S8.out],Ui,Pc⟩
          case measure=>simp[intOf];omega
        ·obtain⟨y,hy⟩:=ag (lW x);have Zt:(y==0)=false:=by rw[<-hy];simp[hxw]
         have Tp:Hid (∀w,Cw 165 #[Iq x] w fun e w'=>e=Rw (Iq y)/\Bt w w'):=by intro w;have:=pf x w;rw[hy]at this;exact this
         have Bn:Hid (xm L=L.take k):=fR eZ _ k hk iU (fun hj=>by rw[HX.out,fJ];exact fun h=>hxw h.2);obtain⟨hS,Ag⟩:=HSX k (by rw[HL.out];exact hk) (by rw[HL.out];exact Bn);rw[HL.out,Yf.out]at hS;have HS:=qH<|hS;clear hS;have sA:=gO sy hbw;obtain⟨TX,Fs⟩:=ag (enc (c::keep L k));rw[Fs]at HS;rw[Fs];clear iU HX Fs sy Gc O2 hbw hxw hy;go_wp2_with fail;refine(Tp _).mono ?_;rintro e w5 ⟨rfl,b5⟩;have Ds:=gO sA b5;have hB5:=T6.trans (b5.mono (by omega));have zqu:=hB5.size;clear b5 sA T6 YZ;go_wp2_with(at_builtin;refine MB hi eG fs gd Ds hB5 [.string ⟨TX.toArray⟩,Iq _] rfl _ _ rfl underlying158 ⟨rfl,by decide,by decide⟩ rfl rfl ⟨rfl,rfl⟩ (by omega) ?_);intro v' w9 bD YS;clear Ds hB5;go_wp2;go_roundw;case rel=>refine⟨pos+k+o,acc++[(TX,_)],by go_num,by omega,?_,YS,HS,by simp;omega⟩;rw[bm,gx];exact bD
         case measure=>simp[intOf];omega
      ·have aN:¬((pos+k+o:Nat):Int)<(R.length:Int):=by omega
       have Bn:Hid (xm L=L.take k):=fR eZ _ k hk iU (fun hj=>absurd hj hlt);obtain⟨hS,Ag⟩:=HSX k (by rw[HL.out];exact hk) (by rw[HL.out];exact Bn);rw[HL.out,Yf.out]at hS;have HS:=qH<|hS;clear hS;have sA:=gO sy hbw;obtain⟨TX,Fs⟩:=ag (enc (c::keep L k));rw[Fs]at HS;rw[Fs];clear iU Fs sy Gc O2 hbw;go_wp2_with(at_builtin;refine MB hi eG fs gd sA T6 [.string ⟨TX.toArray⟩,Iq _] rfl _ _ rfl underlying158 ⟨rfl,by decide,by decide⟩ rfl rfl ⟨rfl,rfl⟩ (by omega) ?_);intro v' w9 bD YS;clear sA T6;go_wp2;go_roundw;case rel=>refine⟨pos+k+o,acc++[(TX,_)],by go_num,by omega,?_,YS,HS,by simp;omega⟩;rw[bm,gx];exact bD
       case measure=>simp[intOf];omega
  ·have hp':¬(pos:Int)<(R.length:Int):=by omega
   have e:=jp.out;rw[zg (by omega),jA,lZ]at e;have HE:=qH<|e;clear e hh jp;go_wp2;go_ret;rw[HRe.out,<-HE.out];exact⟨_,rfl,jr bu hs1,b1.trans (hbw.mono hs1)⟩
theorem Eo(n:Nat)(w:World)(hn:n<=1099511627776):
 Cw 166 #[Iq n] w fun e w'=>e=Rw (.string ⟨(List.replicate n 32).toArray⟩)/\w'=w:=by
 go_enter func166,ntmps166;go_wp2;go_loop[3,4] (fun t i=>∃k:Nat,k<=n/\i=Iq k/\∃Y,t=.string ⟨Y⟩/\Hid (Y=(List.replicate k 32).toArray)/\Y.size=k) (fun _ i=>n-(intOf i).toNat);case atStart=>exact⟨0,aZ _,rfl,_,rfl,rfl,rfl⟩
 case round=>
  obtain⟨k,hk,rfl,Y,rfl,HY,hY⟩:=hrel;by_cases hlt:k<n
  ·have aN:(k:Int)<(n:Int):=by omega
   go_wp2;go_round;case rel=>
    refine⟨k+1,by omega,by go_num,_,rfl,?_,?_⟩;·show _=_;rw[HY.out];grind
    grind
   case measure=>simp[intOf];omega
  ·have aN:¬(k:Int)<(n:Int):=by omega
   obtain rfl:k=n:=by omega
   go_wp2;go_ret;rw[HY.out];simp_all
theorem nW(l:List (List UInt8×Int))(v:Value)(w:World)(hcl:oM w v l)(bY:l.length<=1099511627776)(hj:(aJ l).length<=70368744177664):
 Cw 92 #[v] w fun e w'=>e=Rw (.string ⟨(aJ l).toArray⟩)/\w'=w:=by
 obtain⟨a,cap,rfl,hh⟩:=hcl;have XU:=qH<|fun k=>fK l k;go_enter func92,ntmps92;go_wp2;go_loop[3,4] (fun t i=>∃k:Nat,k<=l.length/\i=Iq k/\t=.string ⟨(aJ (l.take k)).toArray⟩) (fun _ i=>l.length-(intOf i).toNat);case atStart=>exact⟨0,aZ _,rfl,rfl⟩
 case round=>
  obtain⟨k,hk,rfl,rfl⟩:=hrel;by_cases hlt:k<l.length
  ·have aN:(k:Int)<(l.length:Int):=by omega
   have bZ:l≠[]:=fun e=>by grind
   obtain⟨b,off,rfl,hb,hc⟩:=hh.resolve_left bZ;obtain⟨T,V,iT⟩:∃T V,l[k]=(T,V):=⟨_,_,rfl⟩;have c0:w.cell? (az b (off+k*2))=some (.string ⟨T.toArray⟩):=by have:=(hc k hlt).1;rw[iT]at this;exact this
   have HS:Hid (aJ (l.take (k+1))=aJ (l.take k)++T):=by show _=_;rw[sE l k hlt,iT]
   have Uu:=XU (k+1);rw[HS.out,bm]at Uu;obtain⟨Y,hY⟩:=ag (aJ (l.take k));rw[hY]at HS Uu;rw[hY];clear hh hc iT bZ hY;go_wp2;go_round;case rel=>exact⟨k+1,by omega,by go_num,by rw[HS.out,<-Bc]⟩
   case measure=>simp[intOf];omega
  ·have aN:¬(k:Int)<(l.length:Int):=by omega
   have HE:Hid (l.take k=l):=gV (by omega);clear hh;go_wp2;go_ret;rw[HE.out];simp_all
theorem lI(l:List (List UInt8×Int))(v:Value)(W:Int)(w:World)(hcl:oM w v l)(hbd:∀c∈l,0<=c.2/\c.2<=2)(bY:l.length<=1099511627776):
 Cw 93 #[v,Iq W] w fun e w'=>e=Rw (Iq (dy l W))/\w'=w:=by
 obtain⟨a,cap,rfl,hh⟩:=hcl;have iM:=qH<|hbd;clear hbd;go_enter func93,ntmps93;go_wp2;go_loop[5,6] (fun i x=>∃k:Nat,k<=l.length/\i=Iq k/\x=Iq (ap (l.take k))/\Hid (Fit l W k)) (fun i _=>l.length-(intOf i).toNat);case atStart=>exact⟨0,aZ _,rfl,rfl,fun j hj=>by omega⟩
 case round=>
  obtain⟨k,hk,rfl,rfl,ro⟩:=hrel;have hwb:=cJ l iM k;by_cases hlt:k<l.length
  ·have aN:(k:Int)<(l.length:Int):=by omega
   have bZ:l≠[]:=fun e=>by grind
   obtain⟨b,off,rfl,hb,hc⟩:=hh.resolve_left bZ;obtain⟨T,V,iT⟩:∃T V,l[k]=(T,V):=⟨_,_,rfl⟩;have hV:=iM l[k] (lX hlt);have c0:w.cell? (az b (off+k*2))=some (.string ⟨T.toArray⟩):=by have:=(hc k hlt).1;rw[iT]at this;exact this
   have c1:w.cell? (az b (off+k*2+1))=some (Iq V):=by have:=(hc k hlt).2;rw[iT]at this;exact this
   have HS:Hid (ap (l.take (k+1))=ap (l.take k)+V):=by show _=_;rw[dY l k hlt,iT]
   have HX:Hid (tx l k=T):=by show _=_;rw[wQ hlt,iT]
   rw[iT]at hV;obtain⟨X,hX⟩:=ag (ap (l.take k));rw[hX]at HS hwb;rw[hX];simp only at hV;clear hh hc iT hX bZ;by_cases dI:T=[10]
   ·have HE:=qH<|fitN_stop l W k hk ro (fun _=>.inl (by rw[HX.out,dI]));have pT:(T==[10])=true:=by rw[dI];rfl
    go_wp2;go_ret;rw[HE.out];simp_all
   ·have pT:(T==[10])=false:=by simpa using dI
    by_cases Di:X+V<=W
    ·have HF:Hid (Fit l W (k+1)):=fun j hj=>by
      by_cases e:j=k;·subst e;rw[HX.out,HS.out];grind
      ·exact ro j (by omega)
     go_wp2;go_round;case rel=>exact⟨k+1,by omega,by go_num,by rw[HS.out],HF⟩
     case measure=>simp[intOf];omega
    ·have HE:=qH<|fitN_stop l W k hk ro (fun _=>.inr (by rw[HS.out];omega));go_wp2;go_ret;rw[HE.out];simp_all
  ·have aN:¬(k:Int)<(l.length:Int):=by omega
   have HE:=qH<|fitN_stop l W k hk ro (fun h=>absurd h hlt);clear hh;go_wp2;go_ret;rw[HE.out];simp_all
theorem nX(l:List (List UInt8×Int))(v:Value)(w:World)(hcl:oM w v l)(hbd:∀c∈l,0<=c.2/\c.2<=2)(bY:l.length<=1099511627776):
 Cw 91 #[v] w fun e w'=>e=Rw (Iq (ap l))/\w'=w:=by
 obtain⟨a,cap,rfl,hh⟩:=hcl;have iM:=qH<|hbd;clear hbd;go_enter func91,ntmps91;go_wp2;go_loop[3,4] (fun t i=>∃k:Nat,k<=l.length/\i=Iq k/\t=Iq (ap (l.take k))) (fun _ i=>l.length-(intOf i).toNat);case atStart=>exact⟨0,aZ _,rfl,rfl⟩
 case round=>
  obtain⟨k,hk,rfl,rfl⟩:=hrel;have hwb:=cJ l iM k;by_cases hlt:k<l.length
  ·have aN:(k:Int)<(l.length:Int):=by omega
   have bZ:l≠[]:=fun e=>by grind
   obtain⟨b,off,rfl,hb,hc⟩:=hh.resolve_left bZ;obtain⟨T,V,iT⟩:∃T V,l[k]=(T,V):=⟨_,_,rfl⟩;have hV:=iM l[k] (lX hlt);have c1:w.cell? (az b (off+k*2+1))=some (Iq V):=by have:=(hc k hlt).2;rw[iT]at this;exact this
   have HS:Hid (ap (l.take (k+1))=ap (l.take k)+V):=by show _=_;rw[dY l k hlt,iT]
   rw[iT]at hV;obtain⟨X,hX⟩:=ag (ap (l.take k));rw[hX]at HS hwb;rw[hX];simp only at hV;clear hh hc iT hX bZ;go_wp2;go_round;case rel=>exact⟨k+1,by omega,by go_num,by rw[HS.out]⟩
   case measure=>simp[intOf];omega
  ·have aN:¬(k:Int)<(l.length:Int):=by omega
   have HE:Hid (l.take k=l):=gV (by omega);clear hh;go_wp2;go_ret;rw[HE.out];simp_all
theorem AO(s:ByteArray)(w:World)(hs:s.size<=1099511627776):
 Cw 195 #[.string s] w fun e w'=>e=Rw (Iq (ap (a_ (aD s.data.toList))))/\Bt w w':=by
 have lq:s.data.toList.length=s.size:=by rw[fV];rfl
 have hR:=bK s.data.toList;have hC:=cE (aD s.data.toList);rw[lq]at hR;have hbd:=dO (aD s.data.toList);have G:Hid (Cw 89 #[.string s] w fun e w'=>∃v,e=Rw v/\oM w' v (a_ (aD s.data.toList))/\Bt w w'):=by refine(rClusters_any s w hs).mono ?_;rintro e w1 ⟨v,rfl,o,b⟩;exact⟨v,rfl,t_ o,b⟩
 obtain⟨l,hl⟩:=ag (a_ (aD s.data.toList));rw[hl]at G hC hbd⊢;have iM:=qH<|hbd;clear hl lq hbd;go_enter func195,ntmps195;go_wp2_with fail;refine G.mono ?_;rintro e w1 ⟨v1,rfl,c1,b1⟩;have HC:=qH<|c1;clear c1 G;go_wp2_with fail;refine(nX l v1 w1 HC iM (by omega)).mono ?_;rintro e w2 ⟨rfl,rfl⟩;go_wp2;go_ret;simp_all
