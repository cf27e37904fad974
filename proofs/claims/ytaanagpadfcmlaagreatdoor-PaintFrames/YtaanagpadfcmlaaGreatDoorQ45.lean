import Derived.Test.YtaanagpadfcmlaaGreatDoorQ44
import Derived.Deep.CutBlock
set_option linter.all false
set_option maxRecDepth 100000
set_option maxHeartbeats 16000000
namespace Go.Proofs.YtaanagpadfcmlaaGreatDoor
open Go.RowKit Go.Sort Go.Proofs.Tryz
theorem ul(f:Nat)(ev:Array Value)(av:Nat->Array Value)(mb r g zl wb s m:Nat)(L:List Nd)(KV:Nat->Value)(Wd:Nat->Int)(H:Nat->Int->Int)(h:Nat->Nat)(N:Nat->Int)(q:Nat->Nat)(p:Option Addr)(c:Nat)(U:World)(hf:Hid ((f=173/\∃X,ev=#[Pq X]/\av=λj=>#[Iq (h j:Int),Pq X])\/f=174/\∃X Y,ev=#[Pq X,Pq Y]/\av=λj=>#[Iq (h j:Int),Pq X,Pq Y]))(hV:Hid (qk U mb r g zl wb L KV Wd))(hM:Hid (bm U r H s))(hm:m<=1000)(zr:Hid (∀j,j<m->h j<L.length))(hL:L.length<=1000000)(hK:Hid (fL U r p m (λj=>(h j:Int))))(hN:Hid (∀j,j<m->0<=N j/\N j<=100000))(NC:Hid (∀j u,j<m->U.grownBy u (some r)->bm u r H (s+cS q j)->Cw f (av j) u λe Q=>e=Rw (Iq (N j))/\Hid (u.grownBy Q (some r))/\Hid (bm Q r H (s+cS q (j+1))))):
 Cw 172 #[Pq mb,.slice p m c,.func (.func f) #[] ev] U λe U'=>∃i,e=Rw (Sq i m m)/\Nj U U' r i m (λj=>sy (aa L (h j)) (N j)) (λj=>ap (aa L (h j)) 2) (λj=>ap (aa L (h j)) 3) H (s+cS q m):=by
 have zC:=ug m dg;have AM:=qH<|atMost_any;obtain⟨a,ha⟩:∃f:Nat->Int,(λj=>sy (aa L (h j)) (N j))=f:=⟨_,rfl⟩;obtain⟨b,hb⟩:∃f:Nat->Int,(λj=>ap (aa L (h j)) 2)=f:=⟨_,rfl⟩;obtain⟨cc,zm⟩:∃f:Nat->Int,(λj=>ap (aa L (h j)) 3)=f:=⟨_,rfl⟩;have HA:Hid (∀j,a j=sy (aa L (h j)) (N j)):=λj=>rd
 have HB:Hid (∀j,b j=ap (aa L (h j)) 2):=λj=>rd;have zv:Hid (∀j,cc j=ap (aa L (h j)) 3):=λj=>rd;rw[ha,hb,zm];clear ha hb zm;obtain⟨i,ze⟩:=ad U.heap.size;have zk:=qH<|ze;have R0:Hid ((U.alloc (.cells (madeCells #[Iq 0,Iq 0,Iq 0] (m*3)) 303)).rowIs i 303 (m*3) (un a b cc 0)):=by rw[<-ze];exact D3 U m a b cc _
 have G0:Hid (U.grownBy (U.alloc (.cells (madeCells #[Iq 0,Iq 0,Iq 0] (m*3)) 303)) (some r)):=oP (ac (af _ U)) _;have M0:Hid (bm (U.alloc (.cells (madeCells #[Iq 0,Iq 0,Iq 0] (m*3)) 303)) r H (s+cS q 0)):=hM.alloc _;have P:i≠r:=by have:=hM.lt;omega
 go_enter func172,ntmps172;go_wp2_with fail;clear ze zC;go_loopw[17] (λkv wr=>∃k:Nat,k<=m/\kv=Iq (k:Int)/\Hid (U.grownBy wr (some r))/\Hid (bm wr r H (s+cS q k))/\Hid (wr.rowIs i 303 (m*3) (un a b cc k))) (λkv _=>m-(intOf kv).toNat);case atStart=>grind
 case round=>
  obtain⟨k,hk,rfl,I,S,T⟩:=hrel;clear R0 G0 M0;by_cases E:k<m
  ·have zt:(k:Int)<(m:Int):=dg
   have za:=zr k E;have zG:(h k:Int)<(L.length:Int):=dg;have M:=qH<|hV.grown I;have zg:=M.ms;have m0:wr.cell? (aj mb 0)=some (Sq g L.length zl):=by unfold Ms at zg;rw[Lib.cell_of_heap zg];rfl
   obtain⟨kb,ko,rfl,_,_,zn⟩:=(hK.grown I).resolve_left dg;have ck:=zn k E;have zo:=lh (M.len _ za) (KV (h k));have d:=M.nd _ za;rw[zo]at d;have zH:=hN k E;have eA:=HA k;have eB:=HB k;have eC:=zv k;unfold sy at eA;generalize(aa L (h k)).text.toArray=zF at d;generalize((aa L (h k)).kind:Int)=kd at d;generalize ap (aa L (h k)) 0=a0 at d;generalize ap (aa L (h k)) 1=O at d eA;generalize ap (aa L (h k)) 2=C at d eA eB;generalize ap (aa L (h k)) 3=G at d eA eC;generalize ap (aa L (h k)) 4=a4 at d;generalize ap (aa L (h k)) 5=a5 at d;generalize ap (aa L (h k)) 6=a6 at d;generalize ap (aa L (h k)) 7=a7 at d;generalize ap (aa L (h k)) 8=a8 at d;generalize ap (aa L (h k)) 9=a9 at d;generalize ap (aa L (h k)) 10=b0 at d;generalize ap (aa L (h k)) 11=b1 at d;generalize(aa L (h k)).up=up at d;obtain⟨pk,V,zb,_⟩:=M.kid _ za;generalize(aa L (h k)).kids.length=kl at zb;rw[zb]at d;obtain⟨tx,zu⟩:∃z:ByteArray,⟨zF⟩=z:=⟨_,rfl⟩;rw[zu]at d;have n:=d;have q0:wr.cell? (aj g (h k*16))=some (Iq kd):=n 0 _ rfl;have q1:=n 1 _ rfl;have q2:=n 2 _ rfl;have q3:=n 3 _ rfl;have q4:=n 4 _ rfl;have q5:=n 5 _ rfl;have q6:=n 6 _ rfl;have q7:=n 7 _ rfl;have q8:=n 8 _ rfl;have q9:=n 9 _ rfl;have zJ:=n 10 _ rfl;have zK:=n 11 _ rfl;have zL:=n 12 _ rfl;have zM:=n 13 _ rfl;have zN:=n 14 _ rfl;have zO:=n 15 _ rfl;obtain⟨l,D⟩:=ad (wr.alloc (.cells #[Iq kd,Iq a0,Iq O,Iq C,Iq G,Iq a4,Iq a5,Iq a6,Iq a7,Iq a8,Iq a9,Iq b0,Iq b1,.string tx,.slice pk kl V,Iq up] 57));obtain⟨A,hA⟩:=ad wr.heap.size;have zA:i<A:=by rw[<-hA];exact T.lt
   have Z:l.heap[A]?=some (.cells #[Iq kd,Iq a0,Iq O,Iq C,Iq G,Iq a4,Iq a5,Iq a6,Iq a7,Iq a8,Iq a9,Iq b0,Iq b1,.string tx,.slice pk kl V,Iq up] 57 (0,0)):=by rw[<-D,<-hA];show(wr.heap.push _)[wr.heap.size]?=_;exact Kv
   have zy:A≠r:=by have:=S.lt;omega
   have B:Hid (∀u,l.grownBy u (some r)->∀(t:Nat) x,#[Iq kd,Iq a0,Iq O,Iq C,Iq G,Iq a4,Iq a5,Iq a6,Iq a7,Iq a8,Iq a9,Iq b0,Iq b1,.string tx,.slice pk kl V,Iq up][t]?=some x->u.cell? (aj A t)=some x):=λu hu t x ht=>by have zx:=(aD.1 Z).1;have:=hu.block A zx (λe=>by injection e with e;omega);rw[Lib.cell_of_heap (this.trans Z)];exact ht
   have zj:Hid (U.grownBy l (some r)):=by rw[<-D];exact oP I _
   have R:Hid (bm l r H (s+cS q k)):=by rw[<-D];exact S.alloc _
   have zw:Hid (l.rowIs i 303 (m*3) (un a b cc k)):=by rw[<-D];exact T.alloc _
   have z2:l.cell? (aj A 2)=some (Iq O):=B l (ac (af _ _)) 2 _ rfl;have z3:l.cell? (aj A 3)=some (Iq C):=B l (ac (af _ _)) 3 _ rfl;have z4:l.cell? (aj A 4)=some (Iq G):=B l (ac (af _ _)) 4 _ rfl;have zc:U.heap.size<=i:=by rw[zk.out];exact ae _
   have o:Hid (∀u x,l.grownBy u (some r)->bm u r H (s+cS q (k+1))->x=a k->u.cell? (aj A 3)=some (Iq C)/\u.cell? (aj A 4)=some (Iq G)/\i<u.heap.size/\(∀j,u.frozen? (aj i j)=false)/\(∃v,u.cell? (aj i (k*3))=some v)/\(∃v,u.cell? (aj i (k*3+1))=some v)/\(∃v,u.cell? (aj i (k*3+2))=some v)/\
    Hid (U.grownBy (((u.setCell (aj i (k*3)) (Iq x)).setCell (aj i (k*3+1)) (Iq C)).setCell (aj i (k*3+2)) (Iq G)) (some r))/\Hid (bm (((u.setCell (aj i (k*3)) (Iq x)).setCell (aj i (k*3+1)) (Iq C)).setCell (aj i (k*3+2)) (Iq G)) r H (s+cS q (k+1)))/\Hid ((((u.setCell (aj i (k*3)) (Iq x)).setCell (aj i (k*3+1)) (Iq C)).setCell (aj i (k*3+2)) (Iq G)).rowIs i 303 (m*3) (un a b cc (k+1)))):=λu x hu zD hx=>by have F:=o5 zw hu P;have zz:=zj.trans hu;refine⟨B u hu 3 _ rfl,B u hu 4 _ rfl,F.lt,λj=>F.frozen j,⟨_,F.cell dg⟩,⟨_,F.cell dg⟩,⟨_,F.cell dg⟩,ek (ek (ek zz zc _) zc _) zc _,((zD.set P _).set P _).set P _,DZ F _ _ _ hx eB.symm eC.symm⟩
   have zi:=qH<|eA;clear zo d n Z zb zu eA eB eC zg zn zA zy zr;by_cases h3:G=0
   ·subst h3;have HC:Hid (∀u,(u=l\/u=l.drew)->Cw f (av k) u λe Q=>e=Rw (Iq (N k))/\Q.cell? (aj A 3)=some (Iq C)/\Hid (l.grownBy Q (some r))/\Hid (bm Q r H (s+cS q (k+1)))):=λu hu=>by
     have zq:l.grownBy u (some r):=by
      rcases hu with rfl|rfl;·exact ac (af _ _)
      ·exact fS (ac (af _ _))
     have zB:bm u r H (s+cS q k):=by
      rcases hu with rfl|rfl;·exact R
      ·exact R.drew
     refine(NC k u E (zj.trans zq) zB).mono ?_;rintro e Q ⟨rfl,q1,q2⟩;have:=zq.trans q1;exact⟨rfl,B Q this 3 _ rfl,this,q2⟩
    have HX:Hid (max O (m5 (N k) C)=a k):=by show _=_;rw[zi.out,if_pos rfl]
    obtain⟨y,hy⟩:=ad (N k);obtain⟨z,hz⟩:=ad (m5 (N k) C);have zh:Hid (∀w,Cw 215 #[Iq y,Iq C] w λe w'=>e=Rw (Iq z)/\w'=w):=λw=>by rw[<-hz,<-hy];exact AM _ _ _
    rw[hz]at HX;rw[hy]at HC;clear hy hz AM NC;go_upto_region 8 with fail;go_cut[11]from 34 to 41 (λv wx=>v=Iq (max O z)/\Hid (l.grownBy wx (some r))/\Hid (bm wx r H (s+cS q (k+1))));case first=>
     clear D hA;rcases hf.out with⟨rfl,X,rfl,rfl⟩|⟨rfl,X,Y,rfl,rfl⟩<;>dsimp only at HC;all_goals go_region_held(λW=>W.cell? (aj A 3)=some (Iq C)) (go_keep) (first|((first|go_at_call 173|go_at_call 174);refine ag (HC _ (by first|exact .inl rfl|exact .inr rfl)) ?_;rintro e u ⟨rfl,zI,J,K⟩)|(go_at_call 215;refine ag (zh _) ?_;rintro e u2 ⟨rfl,zE⟩;obtain rfl:=zE.symm))
     all_goals go_wp2_with fail
     all_goals go_meet
     all_goals exact⟨by first|rfl|exact congrArg (Value.int .i64) dg,by first|exact J|exact fS J,by first|exact K|exact K.drew⟩
    case rest=>
     obtain⟨rfl,J,K⟩:=hcut;obtain⟨f3,f4,f5,f6,⟨v0,f7⟩,⟨v1,f8⟩,⟨v2,f9⟩,F1,F2,F3⟩:=o wc (max O z) J K HX;clear z2 z3 z4 D hA HC zh o;go_wp2;go_roundw;case rel=>exact⟨k+1,E,by go_num,F1,F2,F3⟩
     case measure=>simp[intOf];omega
   ·have e3:(G==0)=false:=by simpa using h3
    have HX:Hid (O=a k):=by show _=_;rw[zi.out,if_neg h3]
    obtain⟨f3,f4,f5,f6,⟨v0,f7⟩,⟨v1,f8⟩,⟨v2,f9⟩,F1,F2,F3⟩:=o l O (ac (af _ _)) (R.mono (by show s+cS q k<=s+(cS q k+q k);omega)) HX;clear o NC;go_wp2;go_roundw;case rel=>exact⟨k+1,E,by go_num,F1,F2,F3⟩
    case measure=>simp[intOf];omega
  ·have zt:¬(k:Int)<(m:Int):=dg
   obtain rfl:k=m:=dg;go_wp2;go_ret;exact⟨i,rfl,J9 T,by rw[zk.out];omega,I,S⟩
