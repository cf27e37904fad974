import Derived.Test.YtadhgppeafpdgaaGreatDoorQ29A
set_option linter.all false
set_option maxRecDepth 100000
set_option maxHeartbeats 16000000
namespace Go.Proofs.YtadhgppeafpdgaaGreatDoor
open Go.RowKit Go.Sort Go.Proofs.Tryz
def Md(l:Nat->Int)(m:Nat):List Int:=(List.range m).map l
theorem zG(l:Nat->Int)(m:Nat):(Md l m).length=m:=by simp[Md]
theorem Y2(l:Nat->Int)(m j:Nat)(h:j<m):(Md l m)[j]?.getD 0=l j:=by simp[Md,h]
def tV(a:Int):Nat:=(min (a+1) 16).toNat
theorem Bj(l:Nat->Int)(a:Int)(ha:0<=a/\a<=16)(w:World):Calls Tryz.prog 142 #[oX l a] w fun e w'=>∃v,e=Rw v/\nG w' v (Md l (tV a))/\Gr w w':=by
 obtain⟨m,hm⟩:∃z,tV a=z:=⟨_,rfl⟩;rw[hm];unfold tV at hm;have zow:m<=16:=by omega
 have hb:a+1<=16/\a+1=(m:Int)\/16<a+1/\m=16:=by omega
 clear hm;unfold oX;go_enter Tryz.func142,Tryz.ntmps142;go_upto_region 1 with fail;obtain⟨S,hS⟩:∃z,w.heap.size=z:=⟨_,rfl⟩;obtain⟨W0,bc⟩:∃z,w.alloc (.cells #[.int .i64 (l 0),.int .i64 (l 1),.int .i64 (l 2),.int .i64 (l 3),.int .i64 (l 4),.int .i64 (l 5),.int .i64 (l 6),.int .i64 (l 7),.int .i64 (l 8),.int .i64 (l 9),.int .i64 (l 10),.int .i64 (l 11),.int .i64 (l 12),.int .i64 (l 13),.int .i64 (l 14),.int .i64 (l 15),.int .i64 (l 16),.int .i64 a] 132)=z:=⟨_,rfl⟩;have G0:Hid (Gr w W0):=by rw[<-bc];exact(Gr.refl w).alloc _
 have A0:Hid (dG W0 S l a):=by rw[<-bc,<-hS];exact dG.new w l a
 rw[bc,hS];clear bc hS;have ZT:W0.cell? (aq S 17)=some (.int .i64 a):=A0.out.at rfl;have zq:Tryz.prog.arrayLen 130=17:=by kernel_rfl
 have HR:Hid (∀cap,nG W0 (.slice (some (aq S 0)) m cap) (Md l m)):=fun cap=>⟨some (aq S 0),cap,by rw[zG],.inr ⟨S,0,rfl,A0.out.lt,fun j hj=>by rw[zG]at hj;rw[cB,Y2 l m j hj];exact A0.out.at (C5 l a (by omega))⟩⟩;rcases hb with⟨hb,dE⟩|⟨hb,rfl⟩
 ·have xF:(m:Int)<=17:=by omega
  have Tp:(0:Int)<=(m:Int):=by omega
  have Em:min (m:Int) 16=(m:Int):=by omega
  go_wp2;go_ret;exact⟨_,rfl,HR.out _,G0.out⟩
 ·have Em:min (a+1) 16=16:=by omega
  go_wp2;go_ret;exact⟨_,rfl,HR.out _,G0.out⟩
def ff(s:Tm)(b:Int)(l:Nat->Int)(a:Int):Tm:=
 if b=72 then{s with r:={s.r with x:=min (max (l 1) 1) s.W-1,y:=min (max (l 0) 1) s.H-1}}
 else if b=74 then(if l 0=2 then{s with c:=kq s.W s.H s.c 0 0 s.W s.H 0 0 0 0 0 s.W s.H}else s)
 else if b=109 then{s with r:={s.r with f:=yN (Md l (tV a)) s.r.f,g:=yO (Md l (tV a)) s.r.g,b:=yM (Md l (tV a)) s.r.b}}
 else s
section
variable{T K M cap:Nat} {s:Tm} {nv:Value}
theorem PH(w:World)(h:TM w T K M cap s nv)(bt:Int)(l:Nat->Int)(a:Int)(ha:0<=a/\a<=16)(hl:∀j,j<17->0<=l j/\l j<=999999):Calls Tryz.prog 83 #[.pointer (some (aq T 0)),.int .u8 bt,oX l a] w fun e w'=>e=Rw (.tuple #[])/\TM w' T K M cap (ff s bt l a) nv/\C2 T M w w':=by
 have HM:Hid (TM w T K M cap s nv):=h;have HL:Hid (∀j,j<17->0<=l j/\l j<=999999):=hl;clear h hl;unfold oX;go_enter Tryz.func83,Tryz.ntmps83;go_upto_region 1 with fail;obtain⟨S,hS⟩:∃z,w.heap.size=z:=⟨_,rfl⟩;obtain⟨W0,bc⟩:∃z,w.alloc (.cells #[.int .i64 (l 0),.int .i64 (l 1),.int .i64 (l 2),.int .i64 (l 3),.int .i64 (l 4),.int .i64 (l 5),.int .i64 (l 6),.int .i64 (l 7),.int .i64 (l 8),.int .i64 (l 9),.int .i64 (l 10),.int .i64 (l 11),.int .i64 (l 12),.int .i64 (l 13),.int .i64 (l 14),.int .i64 (l 15),.int .i64 (l 16),.int .i64 a] 132)=z:=⟨_,rfl⟩;have G0:Hid (Gr w W0):=by rw[<-bc];exact(Gr.refl w).alloc _
 have A0:Hid (dG W0 S l a):=by rw[<-bc,<-hS];exact dG.new w l a
 have H0:Hid (TM W0 T K M cap s nv):=HM.out.gr G0.out;have hTS:T≠S:=by have:=HM.out.lt;omega
 have Z6:S≠M:=by have:=HM.out.cs.cv.lt;omega
 rw[bc,hS];clear bc hS;by_cases h72:bt=72
 ·subst h72;have HO:Hid (ff s 72 l a={s with r:={s.r with x:=min (max (l 1) 1) s.W-1,y:=min (max (l 0) 1) s.H-1}}):=rfl;obtain⟨px,Hw⟩:∃z,min (max (l 1) 1) (s.W:Int)-1=z:=⟨_,rfl⟩;obtain⟨py,RV⟩:∃z,min (max (l 0) 1) (s.H:Int)-1=z:=⟨_,rfl⟩;have P1:Hid (∀w,Calls Tryz.prog 139 #[.int .i64 (l 1),.int .i64 (s.W:Int)] w fun e w'=>e=Rw (.int .i64 px)/\w'=w):=fun w=>by rw[<-Hw];exact rF _ _ (HL.out 1 (by decide)) (by have:=HM.out.hW;omega) w
  have P2:Hid (∀w,Calls Tryz.prog 139 #[.int .i64 (l 0),.int .i64 (s.H:Int)] w fun e w'=>e=Rw (.int .i64 py)/\w'=w):=fun w=>by rw[<-RV];exact rF _ _ (HL.out 0 (by decide)) (by have:=HM.out.hH;omega) w
  rw[Hw,RV]at HO;clear Hw RV;go_wp2_with fail;refine(qR _ H0.out).mono ?_;rintro e w1 ⟨rfl,g1⟩;have H1:Hid (TM w1 T K M cap s nv):=H0.out.gr g1;have A1:Hid (dG w1 S l a):=A0.out.gr g1;have G1:Hid (Gr w w1):=G0.out.trans g1;clear g1;have y0:w1.cell? (aq S 0)=some (.int .i64 (l 0)):=A1.out.at rfl;have y1:w1.cell? (aq S 1)=some (.int .i64 (l 1)):=A1.out.at rfl;have c1:w1.cell? (aq T 1)=some (.int .i64 s.r.x):=H1.out.at rfl;have c2:w1.cell? (aq T 2)=some (.int .i64 s.r.y):=H1.out.at rfl;have fz:=H1.out.fz;go_wp2_with fail;go_region_held(fun W=>W.cell? (aq S 0)=some (.int .i64 (l 0))/\W.cell? (aq S 1)=some (.int .i64 (l 1))) (go_keep) (first|(go_at_call 139;first|(with_reducible refine ai (P1.out _) ?_;rintro e w2 ⟨rfl,rfl⟩)|(with_reducible refine ai (P2.out _) ?_;rintro e w2 ⟨rfl,rfl⟩)));all_goals
   have H2:Hid (TM (((w1.setCell (aq T 1) (.int .i64 px)).setCell (aq T 2) (.int .i64 py)).drew) T K M cap (ff s 72 l a) nv):=by show TM _ _ _ _ _ _ _;rw[HO.out];exact((H1.out.set 1 (.int .i64 px) {s.r with x:=px} nv rfl).set 2 (.int .i64 py) {s.r with x:=px,y:=py} nv rfl).gr (Gr.refl _).drew
   have HC2:Hid (C2 T M w (((w1.setCell (aq T 1) (.int .i64 px)).setCell (aq T 2) (.int .i64 py)).drew)):=(((C2.gr G1.out).set _ _).set _ _).trans (C2.gr (Gr.refl _).drew);go_wp2;go_end0;exact⟨rfl,H2.out,HC2.out⟩
 ·have e72:(bt==72)=false:=by simpa using h72
  by_cases h74:bt=74
  ·subst h74;have y0:W0.cell? (aq S 0)=some (.int .i64 (l 0)):=A0.out.at rfl;by_cases h2:l 0=2
   ·have HO:Hid (ff s 74 l a={s with c:=kq s.W s.H s.c 0 0 s.W s.H 0 0 0 0 0 s.W s.H}):=by show _=_;unfold ff;rw[if_neg (by decide),if_pos rfl,if_pos h2]
    rw[h2]at y0;have WR:Hid (∀w',Gr W0 w'->Calls Tryz.prog 140 #[.pointer (some (aq T 0))] w' fun e w2=>e=Rw (rv 0 0 s.W s.H)/\Gr w' w2):=fun w' g=>vC w' (H0.out.gr g);have FI:Hid (∀w',Gr W0 w'->Calls Tryz.prog 72 #[.pointer (some (aq K 0)),rv 0 0 s.W s.H,.agg #[.int .i64 0,.int .i64 0,.int .i64 0],rv 0 0 s.W s.H] w' fun e w2=>e=Rw (.tuple #[])/\Hid (TM w2 T K M cap (ff s 74 l a) nv/\C2 T M w w2)):=fun w' g=>(pZ w' (H0.out.gr g).cs H0.out.hW H0.out.hH H0.out.pa 0 0 s.W s.H 0 0 0 0 0 s.W s.H _ _ _ _ rfl).mono fun e w2 q=>⟨q.1,by show _/\_;rw[HO.out];exact⟨(H0.out.gr g).cells q.2.1 q.2.2 (H0.out.pa.filX H0.out.hW H0.out.hH _ _ _ _ _ _ _ _ _ _ _),(C2.gr (G0.out.trans g)).trans (C2.ch q.2.2)⟩⟩;have CE:Hid (∀w',Gr W0 w'->w'.cell? (aq T 0)=some (.pointer (some (aq K 0)))):=fun w' g=>(H0.out.gr g).at rfl;have c0:W0.cell? (aq T 0)=some (.pointer (some (aq K 0))):=H0.out.at rfl;go_wp2_with fail;go_region_held(fun W=>W.cell? (aq T 0)=some (.pointer (some (aq K 0)))) (go_keep) (first|(go_at_call 140;refine ai (WR.out _ (by first|exact G1.out|exact(Gr.refl _).drew|exact Gr.refl _)) ?_;rintro e1 w1 ⟨rfl,g1⟩;(first|(have G2:Hid (Gr W0 w1):=G1.out.trans g1;have o1:=CE.out w1 G2.out)|(have G1:Hid (Gr W0 w1):=((Gr.refl W0).drew).trans g1;have o2:=CE.out w1 G1.out)|(have G1:Hid (Gr W0 w1):=g1;have o2:=CE.out w1 G1.out));clear g1)|(go_at_call 72;refine ai (FI.out _ G2.out) ?_;rintro e2 w2 ⟨rfl,H2⟩;have o3:w2.cell? (aq T 0)=some (.pointer (some (aq K 0))):=H2.out.1.at rfl));all_goals go_wp2;go_end0;exact⟨rfl,H2.out.1,H2.out.2⟩
   ·have HO:Hid (ff s 74 l a=s):=by show _=_;unfold ff;rw[if_neg (by decide),if_pos rfl,if_neg h2]
    have e2:(l 0==2)=false:=by simpa using h2
    go_wp2;go_end0;rw[HO.out];exact⟨rfl,H0.out,C2.gr G0.out⟩
  ·have e74:(bt==74)=false:=by simpa using h74
   by_cases XX:bt=109
   ·subst XX;obtain⟨zs,OZ⟩:∃z,Md l (tV a)=z:=⟨_,rfl⟩;have HZL:Hid (zs.length<=17592186044416):=by show _<=_;rw[<-OZ,zG];unfold tV;omega
    have CT:Hid (∀w',Calls Tryz.prog 142 #[.agg #[.int .i64 (l 0),.int .i64 (l 1),.int .i64 (l 2),.int .i64 (l 3),.int .i64 (l 4),.int .i64 (l 5),.int .i64 (l 6),.int .i64 (l 7),.int .i64 (l 8),.int .i64 (l 9),.int .i64 (l 10),.int .i64 (l 11),.int .i64 (l 12),.int .i64 (l 13),.int .i64 (l 14),.int .i64 (l 15),.int .i64 (l 16),.int .i64 a]] w' fun e w2=>∃v,e=Rw v/\nG w2 v zs/\Gr w' w2):=fun w'=>by have:=Bj l a ha w';rw[OZ]at this;exact this
    obtain⟨f2,hf2⟩:∃z,yN zs s.r.f=z:=⟨_,rfl⟩;obtain⟨g2,lz⟩:∃z,yO zs s.r.g=z:=⟨_,rfl⟩;obtain⟨b2,dE⟩:∃z,yM zs s.r.b=z:=⟨_,rfl⟩;have AP:Hid (∀v w',nG w' v zs->Calls Tryz.prog 141 #[.agg #[.int .i64 s.r.f,.int .i64 s.r.g,.int .i64 s.r.b],v] w' fun e w2=>e=Rw (.agg #[.int .i64 f2,.int .i64 g2,.int .i64 b2])/\Gr w' w2):=fun v w' hv=>by have:=JF s.r.f s.r.g s.r.b zs v w' hv HZL.out;rw[hf2,lz,dE]at this;exact this
    have HO:Hid (ff s 109 l a={s with r:={s.r with f:=f2,g:=g2,b:=b2}}):=by show _=_;unfold ff;rw[if_neg (by decide),if_neg (by decide),if_pos rfl,OZ,hf2,lz,dE]
    have CE:Hid (∀w',Gr W0 w'->∀j v,(W9 K s.r nv)[j]?=some v->w'.cell? (aq T j)=some v):=fun w' g j v hv=>(H0.out.gr g).at hv;clear OZ hf2 lz dE HZL;have x0:W0.cell? (aq S 0)=some (.int .i64 (l 0)):=A0.out.at rfl;have x1:W0.cell? (aq S 1)=some (.int .i64 (l 1)):=A0.out.at rfl;have x2:W0.cell? (aq S 2)=some (.int .i64 (l 2)):=A0.out.at rfl;have x3:W0.cell? (aq S 3)=some (.int .i64 (l 3)):=A0.out.at rfl;have x4:W0.cell? (aq S 4)=some (.int .i64 (l 4)):=A0.out.at rfl;have x5:W0.cell? (aq S 5)=some (.int .i64 (l 5)):=A0.out.at rfl;have x6:W0.cell? (aq S 6)=some (.int .i64 (l 6)):=A0.out.at rfl;have x7:W0.cell? (aq S 7)=some (.int .i64 (l 7)):=A0.out.at rfl;have x8:W0.cell? (aq S 8)=some (.int .i64 (l 8)):=A0.out.at rfl;have x9:W0.cell? (aq S 9)=some (.int .i64 (l 9)):=A0.out.at rfl;have x10:W0.cell? (aq S 10)=some (.int .i64 (l 10)):=A0.out.at rfl;have x11:W0.cell? (aq S 11)=some (.int .i64 (l 11)):=A0.out.at rfl;have x12:W0.cell? (aq S 12)=some (.int .i64 (l 12)):=A0.out.at rfl;have x13:W0.cell? (aq S 13)=some (.int .i64 (l 13)):=A0.out.at rfl;have x14:W0.cell? (aq S 14)=some (.int .i64 (l 14)):=A0.out.at rfl;have x15:W0.cell? (aq S 15)=some (.int .i64 (l 15)):=A0.out.at rfl;have x16:W0.cell? (aq S 16)=some (.int .i64 (l 16)):=A0.out.at rfl;have x17:W0.cell? (aq S 17)=some (.int .i64 a):=A0.out.at rfl;have c3:W0.cell? (aq T 3)=some (.int .i64 s.r.f):=H0.out.at rfl;have c4:W0.cell? (aq T 4)=some (.int .i64 s.r.g):=H0.out.at rfl;have c5:W0.cell? (aq T 5)=some (.int .i64 s.r.b):=H0.out.at rfl;have fz:=H0.out.fz;go_wp2_with fail;go_region_with(first|(go_at_call 142;refine ai (CT.out _) ?_;rintro e1 w1 ⟨v1,rfl,i1,g1⟩;have G1:Hid (Gr W0 w1):=(by first|exact((Gr.refl W0).drew).trans g1|exact g1);have I1:Hid (nG w1 v1 zs):=i1;clear g1 i1;have o3:w1.cell? (aq T 3)=some (.int .i64 s.r.f):=CE.out w1 G1.out 3 _ rfl;have o4:w1.cell? (aq T 4)=some (.int .i64 s.r.g):=CE.out w1 G1.out 4 _ rfl;have o5:w1.cell? (aq T 5)=some (.int .i64 s.r.b):=CE.out w1 G1.out 5 _ rfl)|(go_at_call 141;refine ai (AP.out _ _ I1.out) ?_;rintro e2 w2 ⟨rfl,We⟩;have G2:Hid (Gr W0 w2):=G1.out.trans We;clear We;have u3:w2.cell? (aq T 3)=some (.int .i64 s.r.f):=CE.out w2 G2.out 3 _ rfl;have u4:w2.cell? (aq T 4)=some (.int .i64 s.r.g):=CE.out w2 G2.out 4 _ rfl;have u5:w2.cell? (aq T 5)=some (.int .i64 s.r.b):=CE.out w2 G2.out 5 _ rfl;have uf:=(H0.out.gr G2.out).fz));all_goals
     have H3:Hid (TM (((w2.setCell (aq T 3) (.int .i64 f2)).setCell (aq T 4) (.int .i64 g2)).setCell (aq T 5) (.int .i64 b2)) T K M cap (ff s 109 l a) nv):=by show TM _ _ _ _ _ _ _;rw[HO.out];exact(((H0.out.gr G2.out).set 3 (.int .i64 f2) {s.r with f:=f2} nv rfl).set 4 (.int .i64 g2) {s.r with f:=f2,g:=g2} nv rfl).set 5 (.int .i64 b2) {s.r with f:=f2,g:=g2,b:=b2} nv rfl
     have HC3:Hid (C2 T M w (((w2.setCell (aq T 3) (.int .i64 f2)).setCell (aq T 4) (.int .i64 g2)).setCell (aq T 5) (.int .i64 b2))):=(((C2.gr (G0.out.trans G2.out)).set _ _).set _ _).set _ _;go_wp2;go_end0;exact⟨rfl,H3.out,HC3.out⟩
   ·have zmK:(bt==109)=false:=by simpa using XX
    have HO:Hid (ff s bt l a=s):=by show _=_;unfold ff;rw[if_neg h72,if_neg h74,if_neg XX]
    go_wp2;go_end0;rw[HO.out];exact⟨rfl,H0.out,C2.gr G0.out⟩
end
