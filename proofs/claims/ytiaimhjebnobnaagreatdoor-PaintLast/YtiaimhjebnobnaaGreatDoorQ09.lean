import Derived.Test.YtiaimhjebnobnaaGreatDoorQ08
set_option linter.all false
set_option maxRecDepth 100000
set_option maxHeartbeats 16000000
namespace Go.Proofs.YtiaimhjebnobnaaGreatDoor
open Go.RowKit Go.Proofs.Tryz
def zax(w w':World)(e:Ending)(rb:Nat)(s:ByteArray)(lv:Value)(eY aQ:Int)(R:Except Nat (Nat×gW×List Int)):Prop:=
 ∃(ab:Nat) (a:List Int) (i:Nat) (bad er at_:Int),e=Rw (Sq ab 12 12)/\w.heap.size<=ab/\a.length=12/\fB w' ab (fun k=>Iq (a[k]?.getD 0))/\w.grownBy w' (some rb)/\RS w' rb s i lv bad er at_ aQ/\i<=s.size/\
  match R with
  |.error b=>bad=(b:Int)
  |.ok (i2,f2,a2)=>bad=eY/\i=i2/\a=a2/\FL er at_ f2 i2
theorem attrs_any(rb:Nat)(s:ByteArray)(i:Nat)(lv:Value)(bad er at_ aQ:Int)(kind:Nat)(L:List Nd)(f:gW)(w:World)(h:RS w rb s i lv bad er at_ aQ)(hf:FL er at_ f i)(hL:Wo w rb lv L)(hs:s.size<=1073741824)(hi:i<=s.size)(hb:bad<0)(hk:kind<7)(hLl:L.length<=1073741824):
 Cw 53 #[Pq rb,Iq (kind:Int)] w fun e w'=>zax w w' e rb s lv bad aQ (dC s kind L i f):=by
 have HR0:=qH<|h;have HF0:=qH<|hf;have HL:=qH<|hL;obtain⟨R,hR⟩:=ag (dC s kind L i f);have lO:=qH<|hR;rw[hR];go_enter func53,ntmps53;go_wp2_with fail;refine ao (EV w) ?_;rintro e w1 ⟨rfl,hw,f_,b1⟩;obtain⟨ab,hab⟩:=ag w.heap.size;rw[hab]at hw f_⊢;have HAB:=qH<|hab;have HB1:=qH<|b1;have M8:Hid (fB w1 ab (fun k=>Iq (aX[k]?.getD 0))):=⟨f_,fun k hk=>by grind⟩;have GO:Hid (Cw 97 #[Pq rb,.int .u8 123] w1 fun e w'=>e=Rw (.bool (gB s i 123 bad))/\RS w' rb s (mI s i 123 bad) lv bad er at_ aQ/\w1.grownBy w' (some rb)):=ud rb s i lv bad er at_ aQ 123 w1 (HR0.below HB1) (by omega) hi (by omega);have zbf:=qH<|HR0.lt;go_wp2_with fail;refine ao GO ?_;rintro e w2 ⟨rfl,r2,g2⟩;have H2:Hid (RS w2 rb s (mI s i 123 bad) lv bad er at_ aQ/\w.grownBy w2 (some rb)/\fB w2 ab (fun k=>Iq (aX[k]?.getD 0))):=⟨r2,gr_trans (fG HB1) g2,M8.grown g2 (by have:=zbf.out;omega)⟩;have HM:Hid (mI s i 123 bad=aA s i 123/\gB s i 123 bad=aT s i 123):=by unfold mI gB;rw[if_pos hb,if_pos hb];exact⟨rfl,rfl⟩
 obtain⟨gg,oW⟩:=ag (gB s i 123 bad);have HGG:Hid (aT s i 123=gg):=by show _=_;rw[<-HM.2];exact oW
 rw[oW];cases gg with
 |false=>
  go_wp2;go_ret;have hR:dC s kind L i f=.ok (sk s i,f,aX):=by unfold dC;rw[if_neg (by rw[HGG.out];simp)]
  have BD:aA s i 123=sk s i:=by unfold aA;rw[if_neg (by have:=HGG.out;grind[aT])]
  have hH:=H2.out;rw[HM.1,BD]at hH;refine⟨ab,aX,sk s i,bad,er,at_,rfl,by omega,rfl,hH.2.2,hH.2.1,hH.1,fw s i hi,?_⟩;rw[<-lO.out,hR];exact⟨rfl,rfl,rfl,HF0.on (dX s i)⟩
 |true=>
  have HFU:Hid (d_ s kind L (s.size+1) (aA s i 123) f aX []=R):=by show _=_;rw[<-lO.out];unfold dC;rw[if_pos HGG.out]
  have kV:aA s i 123<=s.size:=eU (by omega) hi;have BD:i<=aA s i 123:=by unfold aA;have:=dX s i;split<;>omega
  have H3:Hid (RS w2 rb s (aA s i 123) lv bad er at_ aQ/\w.grownBy w2 (some rb)/\fB w2 ab (fun k=>Iq (aX[k]?.getD 0))):=by have:=H2.out;rw[HM.1]at this;exact this
  obtain⟨i0,O7⟩:=ag (aA s i 123);rw[O7]at HFU kV BD H3;have HF1:=qH<|HF0.on BD;have iU:∀w:World,(Instr.makeSlice 170 (Iq 12) (Iq 12)).run prog w=.ok (Sq w.heap.size 12 12) (w.alloc (.cells #[.bool false,.bool false,.bool false,.bool false,.bool false,.bool false,.bool false,.bool false,.bool false,.bool false,.bool false,.bool false] 4)):=fun w=>by kernel_rfl
  obtain⟨sb,I7⟩:=ag w2.heap.size;obtain⟨w3,tI⟩:=ag (w2.alloc (.cells #[.bool false,.bool false,.bool false,.bool false,.bool false,.bool false,.bool false,.bool false,.bool false,.bool false,.bool false,.bool false] 4));have BN:Hid (AB w rb ab sb):=by have h3:=H3.2.2.1;exact⟨zbf,by omega,by omega,by omega⟩
  have A0:Hid (AS w w3 rb ab sb s i0 lv bad aQ f i0 aX []):=by
   have b3:Bt w2 w3:=by rw[<-tI];exact(aj _ _).alloc (ai _) _
   have qR:w3.heap[sb]?=some (.cells #[.bool false,.bool false,.bool false,.bool false,.bool false,.bool false,.bool false,.bool false,.bool false,.bool false,.bool false,.bool false] 4 (0,0)):=by rw[<-tI,<-I7];exact heap_alloc_new _ _
   refine⟨⟨er,at_,H3.1.below b3,HF1⟩,rfl,H3.2.2.below b3,⟨(aM.1 qR).1,fun k hk=>⟨?_,frozen_of_row _ _ _ _ _ qR⟩⟩,gr_trans H3.2.1 (fG b3)⟩;rcases(by omega:k=0\/k=1\/k=2\/k=3\/k=4\/k=5\/k=6\/k=7\/k=8\/k=9\/k=10\/k=11)with rfl|rfl|rfl|rfl|rfl|rfl|rfl|rfl|rfl|rfl|rfl|rfl<;>simp[World.cell?,qR]
  go_wp2_with fail;go_loopw[7] (fun mv wi=>∃(more:Bool) (i1:Nat) (b1:Int) (f1:gW) (a1:List Int) (eM:List Nat),mv=.bool more/\i1<=s.size/\Hid (AI s kind L R bad more i1 b1 f1 a1 eM)/\Hid (AS w wi rb ab sb s i1 lv b1 aQ f1 i1 a1 eM)) (fun mv wi=>if Qc mv then s.size+1-rdI wi rb else 0);case atStart=>exact⟨true,i0,bad,f,aX,[],rfl,kV,.inl ⟨rfl,rfl,s.size+1,by omega,HFU⟩,A0⟩
  case round=>
   obtain⟨more,i1,b1,f1,a1,eM,rfl,BE,HI,HA⟩:=hrel;obtain⟨mH,FS,r1,fl1⟩:=HA.rs;have c3:=r1.c3;have _A:=qH<|r1.rdI;rcases HI.out with⟨rfl,rfl,fuel,hfu,b9⟩|⟨rfl,rfl,hcl⟩|⟨hb1,rfl,hbad⟩
   ·have HND:=qH<|AI.round hb BE hfu b9;have SK:=qH<|skip_any rb s i1 lv b1 mH FS aQ wr r1 (by omega) BE;have HF1:=qH<|fl1;have pl:=lL s i1 b1;have ssz:=wK s i1 b1 BE;have six:=QX s i1 b1;have sn:=VI s i1 b1;have I8:=fw s i1 BE;go_wp2_with fail;refine ao SK ?_;rintro e w4 ⟨rfl,r4,g4⟩;have A4:Hid (AS w w4 rb ab sb s (sk s i1) lv b1 aQ f1 i1 a1 eM/\RS w4 rb s (sk s i1) lv b1 mH FS aQ):=⟨HA.next BN r4 HF1 g4,r4⟩;have c1:=r4.c1;have WO:=qH<|word_all rb s (sk s i1) lv b1 mH FS aQ w4 r4 (by omega) I8;go_wp2_with fail;refine ao WO ?_;rintro e w5 ⟨rfl,r5,g5⟩;have A5:=qH<|A4.1.next BN r5 HF1 g5;have MU:Hid (Cw 55 #[Pq rb,.int .u8 61] w5 fun e w'=>e=Rw (.tuple #[])/\RS w' rb s (mI s (wI s (sk s i1) b1) 61 (wB s (sk s i1) b1)) lv (mB s (wI s (sk s i1) b1) 61 (wB s (sk s i1) b1)) mH FS aQ/\w5.grownBy w' (some rb)):=qi rb s (wI s (sk s i1) b1) lv (wB s (sk s i1) b1) mH FS aQ 61 w5 r5 (by omega) (JC _ I8) (by omega);go_wp2_with fail;refine ao MU ?_;rintro e w6 ⟨rfl,r6,g6⟩;have A6:=qH<|A5.next BN r6 HF1 g6;have NU:Hid (Cw 98 #[Pq rb] w6 fun e w'=>e=Rw (.tuple #[Iq (bF s i1 b1).n,Iq ((bF s i1 b1).p:Int)])/\RS w' rb s (bF s i1 b1).i lv (bF s i1 b1).bad mH FS aQ/\w6.grownBy w' (some rb)):=GW rb s (mI s (wI s (sk s i1) b1) 61 (wB s (sk s i1) b1)) lv (mB s (wI s (sk s i1) b1) 61 (wB s (sk s i1) b1)) mH FS aQ w6 r6 (by omega) (sJ _ (by omega) (JC _ I8));have Tp:Hid (aR cI (wS s (sk s i1) b1) 0=(bF s i1 b1).ix/\sk s i1=(bF s i1 b1).at_):=⟨rfl,rfl⟩;clear r6 g6 MU A5;obtain⟨st,hst⟩:=ag (bF s i1 b1);rw[hst]at HND pl ssz six sn NU Tp;clear hst;go_wp2_with fail;refine ao NU ?_;rintro e w7 ⟨rfl,r7,g7⟩;have A7:=qH<|A6.next BN r7 HF1 g7;clear r7 g7 NU A6;go_wp2_with fail;refine ao (LD w7) ?_;rintro e w8 ⟨rfl,hn8,hl8,b8⟩;have A8:=qH<|A7.below b8;have FI:Hid (Cw 50 #[Sq w7.heap.size 12 12,.string (wS s (sk s i1) b1)] w8 fun e w'=>e=Rw (Iq st.ix)/\w'=w8):=by have:=find_any cI (wS s (sk s i1) b1) w7.heap.size 0 12 12 w8 hl8 hn8 rfl (by omega);rw[Tp.1]at this;exact this
    clear hn8 hl8 b8 A7;go_wp2_with fail;refine ao FI ?_;rintro e w9 ⟨rfl,hw9⟩;obtain rfl:=hw9.symm;clear FI;rw[Tp.2];obtain⟨si,dW,sN,sp,xU,sx⟩:=st;simp only at HND pl ssz six sn Tp A8⊢;generalize wS s xU b1=tx;clear Tp I8;by_cases hA:sx<0\/iu kind sx.toNat=false
    ·have Wc:Hid (fa kind L f1 a1 eM ⟨si,dW,sN,sp,xU,sx⟩=(jn f1 7 xU,a1,eM)):=if_pos hA;obtain⟨OA,FT,r8,IG⟩:=A8.rs;have WR:=qH<|wrong_any rb s si lv dW OA FT aQ 7 xU w8 r8;have Fi:Hid (FL (MZ OA FT 7 xU) (MY FT xU) (jn f1 7 xU) si):=(IG.add 7 xU (by omega)).on (by omega);clear r8 IG;have IM:sx<0\/(¬sx<0/\∃x:Nat,sx=x/\x<12/\iu kind x=false):=by
      by_cases h0:sx<0;·exact .inl h0
      ·refine .inr ⟨h0,sx.toNat,by omega,by omega,hA.resolve_left h0⟩
     clear hA;rcases IM with h0|⟨h0,x,rfl,rC,bu⟩;focus have Sx:=decide_eq_true h0;go_wp2_with fail;refine ao WR ?_;rintro e w9 ⟨rfl,r9',g9'⟩;have A9:=qH<|A8.next BN r9' Fi g9';clear r9' g9' WR
     rotate_left;focus
      have Sx:=decide_eq_false h0;have OW:Hid (Cw 100 #[Iq (kind:Int),Iq (x:Int)] w8 fun e w'=>e=Rw (.bool false)/\w'=w8):=by have:=D_ kind x hk rC w8;rw[bu]at this;exact this
      go_wp2_with(go_at_call 100;refine ao OW ?_;rintro e wo ⟨rfl,hwo⟩;obtain rfl:=hwo.symm);refine ao WR ?_;rintro e w9 ⟨rfl,r9',g9'⟩;have A9:=qH<|A8.next BN r9' Fi g9';clear r9' g9' WR OW
     rotate_left;all_goals
      obtain⟨_V,_O,r9,fl9⟩:=A9.rs;have GO:Hid (Cw 97 #[Pq rb,.int .u8 59] w9 fun e w'=>e=Rw (.bool (gB s si 59 dW))/\RS w' rb s (mI s si 59 dW) lv dW _V _O aQ/\w9.grownBy w' (some rb)):=ud rb s si lv dW _V _O aQ 59 w9 r9 (by omega) ssz (by omega);have HF9:=qH<|fl9;have Lb:si<=mI s si 59 dW:=by
       unfold mI;split;·unfold aA;have:=dX s si;split<;>omega
       ·exact dX s si
      have BG:mI s si 59 dW<=s.size:=sJ _ (by omega) ssz;clear r9 fl9;go_wp2_with fail;refine ao GO ?_;rintro e wz ⟨rfl,rz,gz⟩;have AZ:=qH<|A9.next BN rz (HF9.on Lb) gz;have HRZ:=qH<|rz.rdI;clear rz gz GO;have HN1:Hid (AI s kind L R b1 (gB s si 59 dW) (mI s si 59 dW) dW (jn f1 7 xU) (a1) (eM)):=by have:=HND.1;rw[Wc.out]at this;exact this
      have HN2:=qH<|HND.2;obtain⟨gb,nC⟩:=ag (gB s si 59 dW);rw[nC]at HN1 HN2⊢;clear nC;go_wp2_with fail;go_roundw;case rel=>exact⟨gb,mI s si 59 dW,dW,_,_,_,rfl,BG,HN1,AZ⟩
      case measure=>
       rw[HRZ.out,_A.out];cases gb with
       |false=>show 0<s.size+1-i1;omega
       |true=>have:=HN2 rfl;show s.size+1-mI s si 59 dW<s.size+1-i1;omega
    ·obtain⟨x,rfl⟩:∃x:Nat,sx=x:=⟨sx.toNat,by omega⟩;have rC:x<12:=by omega
     have bu:iu kind x=true:=by have:¬iu kind ((x:Int)).toNat=false:=fun e=>hA (.inr e);simpa using this
     have Wc:Hid (fa kind L f1 a1 eM ⟨si,dW,sN,sp,xU,x⟩=(bS (decide ((x:Int)=0/\0<sN)&&fI L sN) (bS (decide (jH[x]?.getD 0<sN)) (bS (eM.contains x) f1 5 xU) 6 sp) 5 sp,a1.set x sN,x::eM)):=if_neg hA;have Sx:decide ((x:Int)<0)=false:=decide_eq_false (by omega);have OW:Hid (Cw 100 #[Iq (kind:Int),Iq (x:Int)] w8 fun e w'=>e=Rw (.bool true)/\w'=w8):=by have:=D_ kind x hk rC w8;rw[bu]at this;exact this
     clear hA bu six;have FD:w8.cell? (az sb x)=some (.bool (eM.contains x)):=(A8.sr.2 x rC).1;obtain⟨bs,hbs⟩:=ag (eM.contains x);rw[hbs]at Wc FD;clear hbs;go_upto_if 64 with(go_at_call 100;refine ao OW ?_;rintro e wo ⟨rfl,hwo⟩;obtain rfl:=hwo.symm);clear FD OW;go_cut[67]from 65 to 66 (fun _ wx=>Hid (AS w wx rb ab sb s si lv dW aQ (bS bs f1 5 xU) xU a1 eM));case first=>
      cases bs with
      |false=>go_wp2_with fail;go_meet;exact A8.on pl.1
      |true=>obtain⟨OA,FT,r8,IG⟩:=A8.rs;have WR:=qH<|wrong_any rb s si lv dW OA FT aQ 5 xU w8 r8;have Fi:Hid (FL (MZ OA FT 5 xU) (MY FT xU) (bS true f1 5 xU) xU):=IG.add 5 xU pl.1;clear r8 IG;go_wp2_with fail;refine ao WR ?_;rintro e w9 ⟨rfl,r9,g9⟩;have A9:=qH<|A8.next BN r9 Fi g9;clear r9 g9 WR;go_wp2_with fail;go_meet;exact A9
     case rest=>
      obtain⟨f2,hf2⟩:=ag (bS bs f1 5 xU);rw[hf2]at hcut Wc;have A9:=hcut;clear hf2 hcut;have FC:wc.cell? (az sb x)=some (.bool (eM.contains x)):=(A9.sr.2 x rC).1;have hs1:=(A9.sr.2 x rC).2;obtain⟨wd,MS⟩:=ag (wc.setCell (az sb x) (.bool true));have AD:Hid (AS w wd rb ab sb s si lv dW aQ (f2) xU a1 (x::eM)):=by rw[<-MS];exact A9.setS BN rC
      go_wp2_with fail;clear MS FC hs1;refine ao (Qd wd) ?_;rintro e we ⟨rfl,hm,BG,be⟩;have AE:=qH<|AD.below be;have qT:=(hm x rC).1;rw[bM]at qT;obtain⟨mo,hmo⟩:=ag (jH[x]?.getD 0);rw[hmo]at qT Wc;clear hmo hm BG be;go_upto_if 76 with fail;clear qT;go_cut[76,79]from 77 to 78 (fun _ _ wx=>Hid (AS w wx rb ab sb s si lv dW aQ (bS (decide (mo<sN)) f2 6 sp) sp a1 (x::eM)));case first=>
       by_cases Di:mo<sN
       ·have WT:=decide_eq_true Di;obtain⟨OA,FT,r8,IG⟩:=AE.rs;have WR:=qH<|wrong_any rb s si lv dW OA FT aQ 6 sp we r8;have Fi:Hid (FL (MZ OA FT 6 sp) (MY FT sp) (bS (decide (mo<sN)) f2 6 sp) sp):=by rw[WT];exact IG.add 6 sp pl.2.1
        clear r8 IG;go_wp2_with fail;refine ao WR ?_;rintro e w9 ⟨rfl,r9,g9⟩;have A9:=qH<|AE.next BN r9 Fi g9;clear r9 g9 WR;go_wp2_with fail;go_meet;exact A9
       ·have WT:=decide_eq_false Di;have A9:Hid (AS w we rb ab sb s si lv dW aQ (bS (decide (mo<sN)) f2 6 sp) sp a1 (x::eM)):=by rw[WT];exact AE.on pl.2.1
        go_wp2_with fail;go_meet;exact A9
      case rest=>
       obtain⟨f3,O3⟩:=ag (bS (decide (mo<sN)) f2 6 sp);rw[O3]at hcut Wc;have A9:=hcut;clear O3 hcut;go_upto_region 21 with fail;go_cut[85]from 80 to 84 (fun v wx=>v=.bool (decide ((x:Int)=0/\0<sN))/\Hid (AS w wx rb ab sb s si lv dW aQ (f3) sp a1 (x::eM)));case first=>
        have nD:(((x:Int)==0)=false/\decide ((x:Int)=0/\0<sN)=false)\/(((x:Int)==0)=true/\decide (0<sN)=false/\decide ((x:Int)=0/\0<sN)=false)\/(((x:Int)==0)=true/\decide (0<sN)=true/\decide ((x:Int)=0/\0<sN)=true):=by simp only[beq_eq_false_iff_ne,beq_iff_eq,decide_eq_false_iff_not,decide_eq_true_eq];omega
        rcases nD with⟨e1,e3⟩|⟨e1,e2,e3⟩|⟨e1,e2,e3⟩;all_goals have E3:=qH<|e3;clear e3;go_wp2_with fail;go_meet;exact⟨by rw[E3.out],A9⟩
       case rest=>
        obtain⟨rfl,A10⟩:=hcut;clear A9;have A9:=qH<|A10.out;clear A10;obtain⟨bd,hbd⟩:=ag (decide ((x:Int)=0/\0<sN));have iM:Hid (bd=true->x=0/\0<sN):=fun e=>by have:=hbd.trans e;have:=of_decide_eq_true this;omega
        rw[hbd]at Wc⊢;clear hbd;go_upto_if 85 with fail;go_cut[13]from 86 to 109 (fun _ wx=>Hid (AS w wx rb ab sb s si lv dW aQ (bS (bd&&fI L sN) f3 5 sp) sp a1 (x::eM)));case first=>
         cases bd with
         |true=>
          obtain⟨rfl,Do⟩:=iM rfl;go_wp2_with fail;go_loopw[13] (fun iv wi=>∃k:Nat,k<=L.length/\iv=Iq k/\Hid (AS w wi rb ab sb s si lv dW aQ (bS (fI (L.take k) sN) f3 5 sp) sp a1 (0::eM))) (fun iv _=>L.length-(intOf iv).toNat);case atStart=>exact⟨0,aZ _,rfl,A9⟩
          case round=>
           obtain⟨k,hkL,rfl,HI⟩:=hrel;obtain⟨OA,FT,r8,IG⟩:=HI.rs;have c2:=r8.c2;rcases HL.out with⟨rfl,rfl⟩|⟨g,cap,AV,rfl,hg,fY,kC⟩
           ·have Y':k=0:=by simpa using hkL
            subst Y';clear r8 IG;go_wp2_with fail;go_meet;exact HI
           ·by_cases hlt:k<L.length
            ·have aN:(k:Int)<(L.length:Int):=by omega
             obtain⟨d1,d2,d3,d4⟩:=kC k hlt;have q1:=HI.gr.cell d1 (by simpa using fY);have q4:=HI.gr.cell d4 (by simpa using d3);have HT:=qH<|hasId_take L sN k hlt;obtain⟨vv,hvv⟩:=ag ((L.map (fun d=>d.attr[0]?.getD 0))[k]?.getD 0);rw[hvv]at q4 HT;clear hvv kC d1 d2 d3 d4;by_cases _4:vv=sN
             ·have hbe:(vv==sN)=true:=by simpa using _4
              have WR:=qH<|wrong_any rb s si (Sq g L.length cap) dW OA FT aQ 5 sp wr r8;have Fi:Hid (FL (MZ OA FT 5 sp) (MY FT sp) (bS (fI (L.take (k+1)) sN) f3 5 sp) sp):=by show FL _ _ _ _;rw[HT.out,hbe,NN];exact IG.add 5 sp (ai _)
              clear r8 IG;go_wp2_with fail;refine ao WR ?_;rintro e w9 ⟨rfl,r9,g9⟩;have AX:=qH<|HI.next BN r9 Fi g9;clear r9 g9 WR;go_wp2_with fail;go_roundw;case rel=>exact⟨k+1,by omega,by go_num,AX⟩
              case measure=>simp[intOf];omega
             ·have hbe:(vv==sN)=false:=by simpa using _4
              have AX:Hid (AS w wr rb ab sb s si (Sq g L.length cap) dW aQ (bS (fI (L.take (k+1)) sN) f3 5 sp) sp a1 (0::eM)):=by show AS _ _ _ _ _ _ _ _ _ _ _ _ _ _;rw[HT.out,hbe,Bool.or_false];exact HI
              clear r8 IG;go_wp2_with fail;go_roundw;case rel=>exact⟨k+1,by omega,by go_num,AX⟩
              case measure=>simp[intOf];omega
            ·have aN:¬(k:Int)<(L.length:Int):=by omega
             have ke:k=L.length:=by omega
             subst ke;have AX:Hid (AS w wr rb ab sb s si (Sq g L.length cap) dW aQ (bS (fI L sN) f3 5 sp) sp a1 (0::eM)):=by have:=HI.out;rw[l5]at this;exact this
             clear r8 IG;go_wp2_with fail;go_meet;exact AX
         |false=>have AX:Hid (AS w wc rb ab sb s si lv dW aQ (bS (false&&fI L sN) f3 5 sp) sp a1 (x::eM)):=A9.out;go_wp2_with fail;go_meet;exact AX
        case rest=>
         have AF:=qH<|(hcut:Hid (AS w wc rb ab sb s si lv dW aQ (bS (bd&&fI L sN) f3 5 sp) sp a1 (x::eM))).out.on pl.2.2;clear hcut;have Su:wc.cell? (az ab x)=some (Iq (a1[x]?.getD 0)):=(AF.ar.2 x rC).1;have ha1:=(AF.ar.2 x rC).2;obtain⟨wd2,zdj⟩:=ag (wc.setCell (az ab x) (Iq sN));have AG:Hid (AS w wd2 rb ab sb s si lv dW aQ (bS (bd&&fI L sN) f3 5 sp) si (a1.set x sN) (x::eM)):=by rw[<-zdj];exact AF.setA BN rC sN
         obtain⟨_V,_O,r9,fl9⟩:=AG.rs;have GO:Hid (Cw 97 #[Pq rb,.int .u8 59] wd2 fun e w'=>e=Rw (.bool (gB s si 59 dW))/\RS w' rb s (mI s si 59 dW) lv dW _V _O aQ/\wd2.grownBy w' (some rb)):=ud rb s si lv dW _V _O aQ 59 wd2 r9 (by omega) ssz (by omega);have HF9:=qH<|fl9;have Lb:si<=mI s si 59 dW:=by
          unfold mI;split;·unfold aA;have:=dX s si;split<;>omega
          ·exact dX s si
         have BG:mI s si 59 dW<=s.size:=sJ _ (by omega) ssz;clear r9 fl9;go_wp2_with fail;clear zdj Su ha1;refine ao GO ?_;rintro e wz ⟨rfl,rz,gz⟩;have AZ:=qH<|AG.next BN rz (HF9.on Lb) gz;have HRZ:=qH<|rz.rdI;clear rz gz GO;have HN1:Hid (AI s kind L R b1 (gB s si 59 dW) (mI s si 59 dW) dW (bS (bd&&fI L sN) f3 5 sp) (a1.set x sN) (x::eM)):=by have:=HND.1;rw[Wc.out]at this;exact this
         have HN2:=qH<|HND.2;obtain⟨gb,nC⟩:=ag (gB s si 59 dW);rw[nC]at HN1 HN2⊢;clear nC;go_wp2_with fail;go_roundw;case rel=>exact⟨gb,mI s si 59 dW,dW,_,_,_,rfl,BG,HN1,AZ⟩
         case measure=>
          rw[HRZ.out,_A.out];cases gb with
          |false=>show 0<s.size+1-i1;omega
          |true=>have:=HN2 rfl;show s.size+1-mI s si 59 dW<s.size+1-i1;omega
   ·have hbt:=decide_eq_true hb;have MU:Hid (Cw 55 #[Pq rb,.int .u8 125] wr fun e w'=>e=Rw (.tuple #[])/\RS w' rb s (mI s i1 125 b1) lv (mB s i1 125 b1) mH FS aQ/\wr.grownBy w' (some rb)):=qi rb s i1 lv b1 mH FS aQ 125 wr r1 (by omega) BE (by omega);have HF1:=qH<|fl1;have HCL:=qH<|hcl;clear r1 fl1 hcl HI;go_wp2_with fail;refine ao MU ?_;rintro e w4 ⟨rfl,r4,g4⟩;have H4:Hid (RS w4 rb s (mI s i1 125 b1) lv (mB s i1 125 b1) mH FS aQ/\wr.grownBy w4 (some rb)):=⟨r4,g4⟩;clear r4 g4 MU;go_wp2;go_ret;have A5:=HA.next BN H4.1 HF1 H4.2;refine⟨ab,a1,mI s i1 125 b1,mB s i1 125 b1,mH,FS,rfl,BN.a,HA.len,A5.ar,A5.gr,H4.1,sJ _ (by omega) BE,?_⟩;have hm:mI s i1 125 b1=aA s i1 125:=by unfold mI;rw[if_pos hb]
    have hB:mB s i1 125 b1=jk s i1 125 b1:=by unfold mB;rw[if_pos hb]
    rw[<-HCL.out,hm,hB];unfold mG dd jk;by_cases b9:aT s i1 125=true;·rw[if_pos b9,if_pos b9];exact⟨rfl,rfl,rfl,HF1.on (by unfold aA;have:=dX s i1;split<;>omega)⟩
    ·rw[if_neg b9,if_neg b9]
   ·have hbf:decide (b1<0)=false:=decide_eq_false (by omega);have MU:Hid (Cw 55 #[Pq rb,.int .u8 125] wr fun e w'=>e=Rw (.tuple #[])/\RS w' rb s (mI s i1 125 b1) lv (mB s i1 125 b1) mH FS aQ/\wr.grownBy w' (some rb)):=qi rb s i1 lv b1 mH FS aQ 125 wr r1 (by omega) BE (by omega);have HF1:=qH<|fl1;have HCL:=qH<|hbad;clear r1 fl1 hbad HI;go_wp2_with fail;refine ao MU ?_;rintro e w4 ⟨rfl,r4,g4⟩;have H4:Hid (RS w4 rb s (mI s i1 125 b1) lv (mB s i1 125 b1) mH FS aQ/\wr.grownBy w4 (some rb)):=⟨r4,g4⟩;clear r4 g4 MU;go_wp2;go_ret;have A5:=HA.next BN H4.1 HF1 H4.2;refine⟨ab,a1,mI s i1 125 b1,mB s i1 125 b1,mH,FS,rfl,BN.a,HA.len,A5.ar,A5.gr,H4.1,sJ _ (by omega) BE,?_⟩;rw[HCL.out];show mB s i1 125 b1=_;unfold mB;rw[if_neg (by omega)];omega
