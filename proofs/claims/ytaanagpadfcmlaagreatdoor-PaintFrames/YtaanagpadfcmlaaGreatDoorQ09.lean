import Derived.Test.YtaanagpadfcmlaaGreatDoorQ08
set_option linter.all false
set_option maxRecDepth 100000
set_option maxHeartbeats 16000000
namespace Go.Proofs.YtaanagpadfcmlaaGreatDoor
open Go.RowKit Go.Proofs.Tryz
def Pn(w w':World)(e:Ending)(rb:Nat)(s:ByteArray)(lv:Value)(K_ cO:Int)(R:Except Nat (Nat×fA×List Int)):Prop:=
 ∃(ab:Nat) (a:List Int) (i:Nat) (bad er at_:Int),e=Rw (Sq ab 12 12)/\w.heap.size<=ab/\a.length=12/\ea w' ab (λk=>Iq (a[k]?.getD 0))/\w.grownBy w' (some rb)/\RS w' rb s i lv bad er at_ cO/\i<=s.size/\
  match R with
  |.error b=>bad=(b:Int)
  |.ok (i2,f2,a2)=>bad=K_/\i=i2/\a=a2/\FL er at_ f2 i2
theorem attrs_any(l:Nat)(s:ByteArray)(i:Nat)(t:Value)(z er at_ j:Int)(o:Nat)(L:List Nd)(f:fA)(w:World)(h:RS w l s i t z er at_ j)(hf:FL er at_ f i)(hL:M9 w l t L)(hs:s.size<=1073741824)(hi:i<=s.size)(hb:z<0)(hk:o<7)(_G:L.length<=1073741824):
 Cw 145 #[Pq l,Iq (o:Int)] w λe w'=>Pn w w' e l s t z j (cW s o L i f):=by
 have HR0:=qH<|h;have HF0:=qH<|hf;have HL:=qH<|hL;obtain⟨R,hR⟩:=ad (cW s o L i f);have zH:=qH<|hR;rw[hR];go_enter func145,ntmps145;go_wp2_with fail;refine ag (zW w) ?_;rintro e w1 ⟨rfl,hw,Ly,b1⟩;obtain⟨ab,zJ⟩:=ad w.heap.size;rw[zJ]at hw Ly⊢;have ZG:=qH<|zJ;have zF:=qH<|b1;have Wa:Hid (ea w1 ab (λk=>Iq (aQ[k]?.getD 0))):=⟨Ly,λk hk=>rd⟩;have GO:Hid (Cw 195 #[Pq l,.int .u8 123] w1 λe w'=>e=Rw (.bool (gB s i 123 z))/\RS w' l s (mI s i 123 z) t z er at_ j/\w1.grownBy w' (some l)):=pV l s i t z er at_ j 123 w1 (HR0.below zF) dg hi dg;have zn:=qH<|HR0.lt;go_wp2_with fail;refine ag GO ?_;rintro e w2 ⟨rfl,r2,g2⟩;have H2:Hid (RS w2 l s (mI s i 123 z) t z er at_ j/\w.grownBy w2 (some l)/\ea w2 ab (λk=>Iq (aQ[k]?.getD 0))):=⟨r2,gr_trans (eh zF) g2,Wa.grown g2 (by have:=zn.out;omega)⟩;have HM:Hid (mI s i 123 z=am s i 123/\gB s i 123 z=aL s i 123):=by unfold mI gB;rw[if_pos hb,if_pos hb];exact⟨rfl,rfl⟩
 obtain⟨gg,zQ⟩:=ad (gB s i 123 z);have zu:Hid (aL s i 123=gg):=by show _=_;rw[<-HM.2];exact zQ
 rw[zQ];cases gg with
 |false=>
  go_wp2;go_ret;have hR:cW s o L i f=.ok (sk s i,f,aQ):=by unfold cW;rw[if_neg (by rw[zu.out];simp)]
  have zl:am s i 123=sk s i:=by unfold am;rw[if_neg (by have:=zu.out;grind[aL])]
  have hH:=H2.out;rw[HM.1,zl]at hH;refine⟨ab,aQ,sk s i,z,er,at_,rfl,dg,rfl,hH.2.2,hH.2.1,hH.1,dX s i hi,?_⟩;rw[<-zH.out,hR];exact⟨rfl,rfl,rfl,HF0.on (du s i)⟩
 |true=>
  have zG:Hid (dw s o L (s.size+1) (am s i 123) f aQ []=R):=by show _=_;rw[<-zH.out];unfold cW;rw[if_pos zu.out]
  have zR:am s i 123<=s.size:=dK dg hi;have zl:i<=am s i 123:=by unfold am;have:=du s i;split<;>omega
  have H3:Hid (RS w2 l s (am s i 123) t z er at_ j/\w.grownBy w2 (some l)/\ea w2 ab (λk=>Iq (aQ[k]?.getD 0))):=by have:=H2.out;rw[HM.1]at this;exact this
  obtain⟨i0,X6⟩:=ad (am s i 123);rw[X6]at zG zR zl H3;have G:=qH<|HF0.on zl;have Q7:∀w:World,(Instr.makeSlice 287 (Iq 12) (Iq 12)).run prog w=.ok (Sq w.heap.size 12 12) (w.alloc (.cells #[.bool false,.bool false,.bool false,.bool false,.bool false,.bool false,.bool false,.bool false,.bool false,.bool false,.bool false,.bool false] 4)):=λw=>ns
  obtain⟨I,Tj⟩:=ad w2.heap.size;obtain⟨w3,Vo⟩:=ad (w2.alloc (.cells #[.bool false,.bool false,.bool false,.bool false,.bool false,.bool false,.bool false,.bool false,.bool false,.bool false,.bool false,.bool false] 4));have y:Hid (AB w l ab I):=by have h3:=H3.2.2.1;exact⟨zn,dg,dg,dg⟩
  have A0:Hid (AS w w3 l ab I s i0 t z j f i0 aQ []):=by
   have b3:Bt w2 w3:=by rw[<-Vo];exact(af _ _).alloc (ae _) _
   have zx:w3.heap[I]?=some (.cells #[.bool false,.bool false,.bool false,.bool false,.bool false,.bool false,.bool false,.bool false,.bool false,.bool false,.bool false,.bool false] 4 (0,0)):=by rw[<-Vo,<-Tj];exact heap_alloc_new _ _
   refine⟨⟨er,at_,H3.1.below b3,G⟩,rfl,H3.2.2.below b3,⟨(aD.1 zx).1,λk hk=>⟨?_,frozen_of_row _ _ _ _ _ zx⟩⟩,gr_trans H3.2.1 (eh b3)⟩;rcases(by omega:k=0\/k=1\/k=2\/k=3\/k=4\/k=5\/k=6\/k=7\/k=8\/k=9\/k=10\/k=11)with rfl|rfl|rfl|rfl|rfl|rfl|rfl|rfl|rfl|rfl|rfl|rfl<;>simp[World.cell?,zx]
  go_wp2_with fail;go_loopw[7] (λmv wi=>∃(more:Bool) (m:Nat) (b1:Int) (f1:fA) (F:List Int) (c:List Nat),mv=.bool more/\m<=s.size/\Hid (AI s o L R z more m b1 f1 F c)/\Hid (AS w wi l ab I s m t b1 j f1 m F c)) (λmv wi=>if I4 mv then s.size+1-rdI wi l else 0);case atStart=>exact⟨true,i0,z,f,aQ,[],rfl,zR,.inl ⟨rfl,rfl,s.size+1,dg,zG⟩,A0⟩
  case round=>
   obtain⟨more,m,b1,f1,F,c,rfl,O,HI,HA⟩:=hrel;obtain⟨D,B,r1,ze⟩:=HA.rs;have c3:=r1.c3;have zI:=qH<|r1.rdI;rcases HI.out with⟨rfl,rfl,fuel,XX,V⟩|⟨rfl,rfl,zL⟩|⟨Pd,rfl,zo⟩
   ·have HND:=qH<|AI.round hb O XX V;have SK:=qH<|skip_any l s m t b1 D B j wr r1 dg O;have G:=qH<|ze;have pl:=jw s m b1;have W:=rX s m b1 O;have zE:=JQ s m b1;have sn:=MJ s m b1;have K:=dX s m O;go_wp2_with fail;refine ag SK ?_;rintro e w4 ⟨rfl,r4,g4⟩;have A4:Hid (AS w w4 l ab I s (sk s m) t b1 j f1 m F c/\RS w4 l s (sk s m) t b1 D B j):=⟨HA.next y r4 G g4,r4⟩;have c1:=r4.c1;have WO:=qH<|word_all l s (sk s m) t b1 D B j w4 r4 dg K;go_wp2_with fail;refine ag WO ?_;rintro e w5 ⟨rfl,r5,g5⟩;have A5:=qH<|A4.1.next y r5 G g5;have MU:Hid (Cw 147 #[Pq l,.int .u8 61] w5 λe w'=>e=Rw (.tuple #[])/\RS w' l s (mI s (wI s (sk s m) b1) 61 (wB s (sk s m) b1)) t (mB s (wI s (sk s m) b1) 61 (wB s (sk s m) b1)) D B j/\w5.grownBy w' (some l)):=m6 l s (wI s (sk s m) b1) t (wB s (sk s m) b1) D B j 61 w5 r5 dg (DY _ K) dg;go_wp2_with fail;refine ag MU ?_;rintro e w6 ⟨rfl,r6,g6⟩;have A6:=qH<|A5.next y r6 G g6;have NU:Hid (Cw 196 #[Pq l] w6 λe w'=>e=Rw (.tuple #[Iq (bc s m b1).n,Iq ((bc s m b1).p:Int)])/\RS w' l s (bc s m b1).i t (bc s m b1).bad D B j/\w6.grownBy w' (some l)):=BI l s (mI s (wI s (sk s m) b1) 61 (wB s (sk s m) b1)) t (mB s (wI s (sk s m) b1) 61 (wB s (sk s m) b1)) D B j w6 r6 dg (oV _ dg (DY _ K));have za:Hid (aI bS (wS s (sk s m) b1) 0=(bc s m b1).ix/\sk s m=(bc s m b1).at_):=⟨rfl,rfl⟩;clear r6 g6 MU A5;obtain⟨st,Pl⟩:=ad (bc s m b1);rw[Pl]at HND pl W zE sn NU za;clear Pl;go_wp2_with fail;refine ag NU ?_;rintro e w7 ⟨rfl,r7,g7⟩;have A7:=qH<|A6.next y r7 G g7;clear r7 g7 NU A6;go_wp2_with fail;refine ag (Fy w7) ?_;rintro e X ⟨rfl,zY,zT,b8⟩;have A8:=qH<|A7.below b8;have FI:Hid (Cw 142 #[Sq w7.heap.size 12 12,.string (wS s (sk s m) b1)] X λe w'=>e=Rw (Iq st.ix)/\w'=X):=by have:=find_any bS (wS s (sk s m) b1) w7.heap.size 0 12 12 X zT zY rfl dg;rw[za.1]at this;exact this
    clear zY zT b8 A7;go_wp2_with fail;refine ag FI ?_;rintro e w9 ⟨rfl,Ts⟩;obtain rfl:=Ts.symm;clear FI;rw[za.2];obtain⟨q,b,u,sp,r,sx⟩:=st;simp only at HND pl W zE sn za A8⊢;generalize wS s r b1=tx;clear za K;by_cases hA:sx<0\/fM o sx.toNat=false
    ·have N:Hid (fa o L f1 F c ⟨q,b,u,sp,r,sx⟩=(gI f1 7 r,F,c)):=if_pos hA;obtain⟨H,C,P,E⟩:=A8.rs;have U:=qH<|wrong_any l s q t b H C j 7 r X P;have M:Hid (FL (Gt H C 7 r) (Gs C r) (gI f1 7 r) q):=(E.add 7 r dg).on dg;clear P E;have Xv:sx<0\/(¬sx<0/\∃x:Nat,sx=x/\x<12/\fM o x=false):=by
      by_cases h0:sx<0;·exact .inl h0
      ·refine .inr ⟨h0,sx.toNat,dg,dg,hA.resolve_left h0⟩
     clear hA;rcases Xv with h0|⟨h0,x,rfl,A,S⟩;focus have zM:=decide_eq_true h0;go_wp2_with fail;refine ag U ?_;rintro e w9 ⟨rfl,zk,zh⟩;have J:=qH<|A8.next y zk M zh;clear zk zh U
     rotate_left;focus
      have zM:=decide_eq_false h0;have OW:Hid (Cw 198 #[Iq (o:Int),Iq (x:Int)] X λe w'=>e=Rw (.bool false)/\w'=X):=by have:=ye o x hk A X;rw[S]at this;exact this
      go_wp2_with(go_at_call 198;refine ag OW ?_;rintro e wo ⟨rfl,zD⟩;obtain rfl:=zD.symm);refine ag U ?_;rintro e w9 ⟨rfl,zk,zh⟩;have J:=qH<|A8.next y zk M zh;clear zk zh U OW
     rotate_left;all_goals
      obtain⟨zc,zb,T,zg⟩:=J.rs;have GO:Hid (Cw 195 #[Pq l,.int .u8 59] w9 λe w'=>e=Rw (.bool (gB s q 59 b))/\RS w' l s (mI s q 59 b) t b zc zb j/\w9.grownBy w' (some l)):=pV l s q t b zc zb j 59 w9 T dg W dg;have zt:=qH<|zg;have zB:q<=mI s q 59 b:=by
       unfold mI;split;·unfold am;have:=du s q;split<;>omega
       ·exact du s q
      have zj:mI s q 59 b<=s.size:=oV _ dg W;clear T zg;go_wp2_with fail;refine ag GO ?_;rintro e wz ⟨rfl,rz,gz⟩;have AZ:=qH<|J.next y rz (zt.on zB) gz;have zv:=qH<|rz.rdI;clear rz gz GO;have Y:Hid (AI s o L R b1 (gB s q 59 b) (mI s q 59 b) b (gI f1 7 r) (F) (c)):=by have:=HND.1;rw[N.out]at this;exact this
      have Z:=qH<|HND.2;obtain⟨gb,zi⟩:=ad (gB s q 59 b);rw[zi]at Y Z⊢;clear zi;go_wp2_with fail;go_roundw;case rel=>exact⟨gb,mI s q 59 b,b,_,_,_,rfl,zj,Y,AZ⟩
      case measure=>
       rw[zv.out,zI.out];cases gb with
       |false=>show 0<s.size+1-m;omega
       |true=>have:=Z rfl;show s.size+1-mI s q 59 b<s.size+1-m;omega
    ·obtain⟨x,rfl⟩:∃x:Nat,sx=x:=⟨sx.toNat,dg⟩;have A:x<12:=dg
     have S:fM o x=true:=by have:¬fM o ((x:Int)).toNat=false:=λe=>hA (.inr e);simpa using this
     have N:Hid (fa o L f1 F c ⟨q,b,u,sp,r,x⟩=(bn (decide ((x:Int)=0/\0<u)&&em L u) (bn (decide (gX[x]?.getD 0<u)) (bn (c.contains x) f1 5 r) 6 sp) 5 sp,F.set x u,x::c)):=if_neg hA;have zM:decide ((x:Int)<0)=false:=decide_eq_false dg;have OW:Hid (Cw 198 #[Iq (o:Int),Iq (x:Int)] X λe w'=>e=Rw (.bool true)/\w'=X):=by have:=ye o x hk A X;rw[S]at this;exact this
     clear hA S zE;have zZ:X.cell? (aj I x)=some (.bool (c.contains x)):=(A8.sr.2 x A).1;obtain⟨bs,zK⟩:=ad (c.contains x);rw[zK]at N zZ;clear zK;go_upto_if 64 with(go_at_call 198;refine ag OW ?_;rintro e wo ⟨rfl,zD⟩;obtain rfl:=zD.symm);clear zZ OW;go_cut[67]from 65 to 66 (λ_ wx=>Hid (AS w wx l ab I s q t b j (bn bs f1 5 r) r F c));case first=>
      cases bs with
      |false=>go_wp2_with fail;go_meet;exact A8.on pl.1
      |true=>obtain⟨H,C,P,E⟩:=A8.rs;have U:=qH<|wrong_any l s q t b H C j 5 r X P;have M:Hid (FL (Gt H C 5 r) (Gs C r) (bn true f1 5 r) r):=E.add 5 r pl.1;clear P E;go_wp2_with fail;refine ag U ?_;rintro e w9 ⟨rfl,T,g9⟩;have J:=qH<|A8.next y T M g9;clear T g9 U;go_wp2_with fail;go_meet;exact J
     case rest=>
      obtain⟨f2,zO⟩:=ad (bn bs f1 5 r);rw[zO]at hcut N;have J:=hcut;clear zO hcut;have Qr:wc.cell? (aj I x)=some (.bool (c.contains x)):=(J.sr.2 x A).1;have Ra:=(J.sr.2 x A).2;obtain⟨wd,Nx⟩:=ad (wc.setCell (aj I x) (.bool true));have AD:Hid (AS w wd l ab I s q t b j (f2) r F (x::c)):=by rw[<-Nx];exact J.setS y A
      go_wp2_with fail;clear Nx Qr Ra;refine ag (I5 wd) ?_;rintro e we ⟨rfl,hm,zj,be⟩;have AE:=qH<|AD.below be;have zC:=(hm x A).1;rw[aZ]at zC;obtain⟨mo,zX⟩:=ad (gX[x]?.getD 0);rw[zX]at zC N;clear zX hm zj be;go_upto_if 76 with fail;clear zC;go_cut[76,79]from 77 to 78 (λ_ _ wx=>Hid (AS w wx l ab I s q t b j (bn (decide (mo<u)) f2 6 sp) sp F (x::c)));case first=>
       by_cases zS:mo<u
       ·have zA:=decide_eq_true zS;obtain⟨H,C,P,E⟩:=AE.rs;have U:=qH<|wrong_any l s q t b H C j 6 sp we P;have M:Hid (FL (Gt H C 6 sp) (Gs C sp) (bn (decide (mo<u)) f2 6 sp) sp):=by rw[zA];exact E.add 6 sp pl.2.1
        clear P E;go_wp2_with fail;refine ag U ?_;rintro e w9 ⟨rfl,T,g9⟩;have J:=qH<|AE.next y T M g9;clear T g9 U;go_wp2_with fail;go_meet;exact J
       ·have zA:=decide_eq_false zS;have J:Hid (AS w we l ab I s q t b j (bn (decide (mo<u)) f2 6 sp) sp F (x::c)):=by rw[zA];exact AE.on pl.2.1
        go_wp2_with fail;go_meet;exact J
      case rest=>
       obtain⟨f3,zP⟩:=ad (bn (decide (mo<u)) f2 6 sp);rw[zP]at hcut N;have J:=hcut;clear zP hcut;go_upto_region 21 with fail;go_cut[85]from 80 to 84 (λv wx=>v=.bool (decide ((x:Int)=0/\0<u))/\Hid (AS w wx l ab I s q t b j (f3) sp F (x::c)));case first=>
        have Tt:(((x:Int)==0)=false/\decide ((x:Int)=0/\0<u)=false)\/(((x:Int)==0)=true/\decide (0<u)=false/\decide ((x:Int)=0/\0<u)=false)\/(((x:Int)==0)=true/\decide (0<u)=true/\decide ((x:Int)=0/\0<u)=true):=by simp only[beq_eq_false_iff_ne,beq_iff_eq,decide_eq_false_iff_not,decide_eq_true_eq];omega
        rcases Tt with⟨e1,e3⟩|⟨e1,e2,e3⟩|⟨e1,e2,e3⟩;all_goals have E3:=qH<|e3;clear e3;go_wp2_with fail;go_meet;exact⟨by rw[E3.out],J⟩
       case rest=>
        obtain⟨rfl,A10⟩:=hcut;clear J;have J:=qH<|A10.out;clear A10;obtain⟨bd,zy⟩:=ad (decide ((x:Int)=0/\0<u));have Rj:Hid (bd=true->x=0/\0<u):=λe=>by have:=zy.trans e;have:=of_decide_eq_true this;omega
        rw[zy]at N⊢;clear zy;go_upto_if 85 with fail;go_cut[13]from 86 to 109 (λ_ wx=>Hid (AS w wx l ab I s q t b j (bn (bd&&em L u) f3 5 sp) sp F (x::c)));case first=>
         cases bd with
         |true=>
          obtain⟨rfl,S4⟩:=Rj rfl;go_wp2_with fail;go_loopw[13] (λiv wi=>∃k:Nat,k<=L.length/\iv=Iq k/\Hid (AS w wi l ab I s q t b j (bn (em (L.take k) u) f3 5 sp) sp F (0::c))) (λiv _=>L.length-(intOf iv).toNat);case atStart=>exact⟨0,aR _,rfl,J⟩
          case round=>
           obtain⟨k,Yb,rfl,HI⟩:=hrel;obtain⟨H,C,P,E⟩:=HI.rs;have c2:=P.c2;rcases HL.out with⟨rfl,rfl⟩|⟨g,zw,AV,rfl,hg,Q0,Q⟩
           ·have Qg:k=0:=by simpa using Yb
            subst Qg;clear P E;go_wp2_with fail;go_meet;exact HI
           ·by_cases zU:k<L.length
            ·have zV:(k:Int)<(L.length:Int):=dg
             obtain⟨d1,d2,d3,d4⟩:=Q k zU;have q1:=HI.gr.cell d1 (by simpa using Q0);have q4:=HI.gr.cell d4 (by simpa using d3);have HT:=qH<|hasId_take L u k zU;obtain⟨vv,Vm⟩:=ad ((L.map (λd=>d.attr[0]?.getD 0))[k]?.getD 0);rw[Vm]at q4 HT;clear Vm Q d1 d2 d3 d4;by_cases zN:vv=u
             ·have zz:(vv==u)=true:=by simpa using zN
              have U:=qH<|wrong_any l s q (Sq g L.length zw) b H C j 5 sp wr P;have M:Hid (FL (Gt H C 5 sp) (Gs C sp) (bn (em (L.take (k+1)) u) f3 5 sp) sp):=by show FL _ _ _ _;rw[HT.out,zz,GP];exact E.add 5 sp (ae _)
              clear P E;go_wp2_with fail;refine ag U ?_;rintro e w9 ⟨rfl,T,g9⟩;have AX:=qH<|HI.next y T M g9;clear T g9 U;go_wp2_with fail;go_roundw;case rel=>exact⟨k+1,dg,by go_num,AX⟩
              case measure=>simp[intOf];omega
             ·have zz:(vv==u)=false:=by simpa using zN
              have AX:Hid (AS w wr l ab I s q (Sq g L.length zw) b j (bn (em (L.take (k+1)) u) f3 5 sp) sp F (0::c)):=by show AS _ _ _ _ _ _ _ _ _ _ _ _ _ _;rw[HT.out,zz,Bool.or_false];exact HI
              clear P E;go_wp2_with fail;go_roundw;case rel=>exact⟨k+1,dg,by go_num,AX⟩
              case measure=>simp[intOf];omega
            ·have zV:¬(k:Int)<(L.length:Int):=dg
             have Q5:k=L.length:=dg;subst Q5;have AX:Hid (AS w wr l ab I s q (Sq g L.length zw) b j (bn (em L u) f3 5 sp) sp F (0::c)):=by have:=HI.out;rw[io]at this;exact this
             clear P E;go_wp2_with fail;go_meet;exact AX
         |false=>have AX:Hid (AS w wc l ab I s q t b j (bn (false&&em L u) f3 5 sp) sp F (x::c)):=J.out;go_wp2_with fail;go_meet;exact AX
        case rest=>
         have AF:=qH<|(hcut:Hid (AS w wc l ab I s q t b j (bn (bd&&em L u) f3 5 sp) sp F (x::c))).out.on pl.2.2;clear hcut;have XE:wc.cell? (aj ab x)=some (Iq (F[x]?.getD 0)):=(AF.ar.2 x A).1;have XF:=(AF.ar.2 x A).2;obtain⟨zm,zq⟩:=ad (wc.setCell (aj ab x) (Iq u));have AG:Hid (AS w zm l ab I s q t b j (bn (bd&&em L u) f3 5 sp) q (F.set x u) (x::c)):=by rw[<-zq];exact AF.setA y A u
         obtain⟨zc,zb,T,zg⟩:=AG.rs;have GO:Hid (Cw 195 #[Pq l,.int .u8 59] zm λe w'=>e=Rw (.bool (gB s q 59 b))/\RS w' l s (mI s q 59 b) t b zc zb j/\zm.grownBy w' (some l)):=pV l s q t b zc zb j 59 zm T dg W dg;have zt:=qH<|zg;have zB:q<=mI s q 59 b:=by
          unfold mI;split;·unfold am;have:=du s q;split<;>omega
          ·exact du s q
         have zj:mI s q 59 b<=s.size:=oV _ dg W;clear T zg;go_wp2_with fail;clear zq XE XF;refine ag GO ?_;rintro e wz ⟨rfl,rz,gz⟩;have AZ:=qH<|AG.next y rz (zt.on zB) gz;have zv:=qH<|rz.rdI;clear rz gz GO;have Y:Hid (AI s o L R b1 (gB s q 59 b) (mI s q 59 b) b (bn (bd&&em L u) f3 5 sp) (F.set x u) (x::c)):=by have:=HND.1;rw[N.out]at this;exact this
         have Z:=qH<|HND.2;obtain⟨gb,zi⟩:=ad (gB s q 59 b);rw[zi]at Y Z⊢;clear zi;go_wp2_with fail;go_roundw;case rel=>exact⟨gb,mI s q 59 b,b,_,_,_,rfl,zj,Y,AZ⟩
         case measure=>
          rw[zv.out,zI.out];cases gb with
          |false=>show 0<s.size+1-m;omega
          |true=>have:=Z rfl;show s.size+1-mI s q 59 b<s.size+1-m;omega
   ·have _O:=decide_eq_true hb;have MU:Hid (Cw 147 #[Pq l,.int .u8 125] wr λe w'=>e=Rw (.tuple #[])/\RS w' l s (mI s m 125 b1) t (mB s m 125 b1) D B j/\wr.grownBy w' (some l)):=m6 l s m t b1 D B j 125 wr r1 dg O dg;have G:=qH<|ze;have zr:=qH<|zL;clear r1 ze zL HI;go_wp2_with fail;refine ag MU ?_;rintro e w4 ⟨rfl,r4,g4⟩;have H4:Hid (RS w4 l s (mI s m 125 b1) t (mB s m 125 b1) D B j/\wr.grownBy w4 (some l)):=⟨r4,g4⟩;clear r4 g4 MU;go_wp2;go_ret;have A5:=HA.next y H4.1 G H4.2;refine⟨ab,F,mI s m 125 b1,mB s m 125 b1,D,B,rfl,y.a,HA.len,A5.ar,A5.gr,H4.1,oV _ dg O,?_⟩;have hm:mI s m 125 b1=am s m 125:=by unfold mI;rw[if_pos hb]
    have hB:mB s m 125 b1=gD s m 125 b1:=by unfold mB;rw[if_pos hb]
    rw[<-zr.out,hm,hB];unfold jY cC gD;by_cases V:aL s m 125=true;·rw[if_pos V,if_pos V];exact⟨rfl,rfl,rfl,G.on (by unfold am;have:=du s m;split<;>omega)⟩
    ·rw[if_neg V,if_neg V]
   ·have _N:decide (b1<0)=false:=decide_eq_false dg;have MU:Hid (Cw 147 #[Pq l,.int .u8 125] wr λe w'=>e=Rw (.tuple #[])/\RS w' l s (mI s m 125 b1) t (mB s m 125 b1) D B j/\wr.grownBy w' (some l)):=m6 l s m t b1 D B j 125 wr r1 dg O dg;have G:=qH<|ze;have zr:=qH<|zo;clear r1 ze zo HI;go_wp2_with fail;refine ag MU ?_;rintro e w4 ⟨rfl,r4,g4⟩;have H4:Hid (RS w4 l s (mI s m 125 b1) t (mB s m 125 b1) D B j/\wr.grownBy w4 (some l)):=⟨r4,g4⟩;clear r4 g4 MU;go_wp2;go_ret;have A5:=HA.next y H4.1 G H4.2;refine⟨ab,F,mI s m 125 b1,mB s m 125 b1,D,B,rfl,y.a,HA.len,A5.ar,A5.gr,H4.1,oV _ dg O,?_⟩;rw[zr.out];show mB s m 125 b1=_;unfold mB;rw[if_neg dg];omega
