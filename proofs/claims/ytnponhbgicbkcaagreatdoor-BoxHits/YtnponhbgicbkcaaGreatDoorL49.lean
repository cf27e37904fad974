import Derived.Test.YtnponhbgicbkcaaGreatDoorL47
import Derived.Test.YtnponhbgicbkcaaGreatDoorL48
set_option linter.unusedVariables false
set_option maxRecDepth 100000
set_option maxHeartbeats 16000000
namespace Go.Proofs.YtnponhbgicbkcaaGreatDoor
section
open Go.RowKit Go.Sort Go.Proofs.Tryz
theorem lay_all{s}{L}{Wd}{H}(hT:Tree s L)(hZ:Sz L Wd H){en}(he:En L en) g cap pb pc  sp  sn sc  idf off  U0 (hN:NdsR U0 g L.length (nth L))(hsc:Scr U0 sp sn idf off)(hsn:sn≤4611686018427387904)(hpb:U0.heap.size≤pb):∀f k,L.length≤k+f->k<L.length->∀P U,Below U0.heap.size U0 U->U.rowIs pb 47 (L.length*10) (pcF P)->LyPre en P k->
 Calls prog 67 #[Sq g L.length cap,Sq pb L.length pc,Iq (k:Int),.slice sp sn sc] U fun e U'=>e=.returned (.tuple #[])∧Hid (LaOut L en Wd H idf off sn pb P k U U')
 |0,k,h1,h2,P,U,hU,hR,hP=>by omega
 |f+1,k,h1,h2,P,U,hU,hR,hP=>lay_node hT hZ he g cap pb pc sp sn sc idf off U0 hN hsc hsn hpb k h2 P U hU hR hP fun j hj Q u hu hr hp=>by have:=kid_lt hT h2 hj;exact lay_all hT hZ he g cap pb pc sp sn sc idf off U0 hN hsc hsn hpb f _ (by omega) this.2 Q u hu hr hp
theorem infoRPl:(prog.info? 47).map (fun i=>(i.zero,i.size,i.bytes))=some (some (.agg #[Iq 0,Iq 0,Iq 0,Iq 0,Iq 0,Iq 0,Iq 0,Iq 0,Iq 0,Iq 0]),10,80):=by kernel_rfl
def RPlOut(U U':World)(L:List Nd)(Wd:Nat->Int)(H:Nat->Int->Int)(w h:Int)(idf off:Nat->Int)(sn pb:Nat):Prop:=Below U.heap.size U U'∧∃P,U'.rowIs pb 47 (L.length*10) (pcF P)∧PlTo L Wd H w h idf off sn P L.length
theorem rplaced_any{s}{L}{Wd}{H}(hT:Tree s L)(hZ:Sz L Wd H) g cap  sp  sn sc  idf off  w h  U (hN:NdsR U g L.length (nth L))(hsc:Scr U sp sn idf off)(hsn:sn≤4611686018427387904)(hw:1≤w∧w≤400)(hh:1≤h∧h≤400):
 Calls prog 37 #[Sq g L.length cap,Iq w,Iq h,.slice sp sn sc] U fun e U'=>∃pb,e=.returned (Sq pb L.length L.length)∧Hid (RPlOut U U' L Wd H w h idf off sn pb):=by
 have hpos:=hT.pos;have hc:=hT.vl.cnt;obtain⟨i0,hi,hz0,hz1,hz2⟩:=info_parts infoRPl;obtain⟨N,hNe⟩:=nmd L.length;have hmk:∀W:World,(Instr.makeSlice 38 (Iq (N:Int)) (Iq (N:Int))).run prog W=.ok (Sq W.heap.size N N) (W.alloc (.cells (madeCells #[Iq 0,Iq 0,Iq 0,Iq 0,Iq 0,Iq 0,Iq 0,Iq 0,Iq 0,Iq 0] (N*10)) 47)):=fun W=>by have:=run_make (P:=prog) W 38 47 i0 _ underlying38 hi hz0 .i64 .i64 N N (by omega) (Int.le_refl _) (by rw[hz2];omega) (by omega);rw[hz1,Int.toNat_natCast]at this;exact this
 clear hi hz0 hz1 hz2;obtain⟨en,he⟩:=en_ex hT;obtain⟨pb,hpb⟩:=nmd U.heap.size;obtain⟨W1,hW1⟩:=nmd (U.alloc (.cells (madeCells #[Iq 0,Iq 0,Iq 0,Iq 0,Iq 0,Iq 0,Iq 0,Iq 0,Iq 0,Iq 0] (N*10)) 47));have hr1:W1.rowIs pb 47 (N*10) (pcF fun _ _=>0):=by have:=made_places U N 47;rw[hpb,hW1]at this;exact this
 have hb1:Below U.heap.size U W1:=by rw[<-hW1];exact((Gr.refl U).alloc _).below
 obtain⟨W2,hW2⟩:=nmd ((((((((((W1.setCell ⟨pb,0,none⟩ (Iq 0)).setCell ⟨pb,1,none⟩ (Iq 0)).setCell ⟨pb,2,none⟩ (Iq w)).setCell ⟨pb,3,none⟩ (Iq h)).setCell ⟨pb,4,none⟩ (Iq 0)).setCell ⟨pb,5,none⟩ (Iq 0)).setCell ⟨pb,6,none⟩ (Iq w)).setCell ⟨pb,7,none⟩ (Iq h)).setCell ⟨pb,8,none⟩ (Iq 0)).setCell ⟨pb,9,none⟩ (Iq 0));obtain⟨P,hP⟩:=nmd (putAt (putAt (putAt (putAt (putAt (putAt (putAt (putAt (putAt (putAt (fun _ _=>0) 0 0 0) 0 1 0) 0 2 w) 0 3 h) 0 4 0) 0 5 0) 0 6 w) 0 7 h) 0 8 0) 0 9 0);have hr2:W2.rowIs pb 47 (N*10) (pcF P):=by rw[<-hW2,<-hP];exact pc_set (pc_set (pc_set (pc_set (pc_set (pc_set (pc_set (pc_set (pc_set (pc_set hr1 0 0 (by omega) 0) 0 1 (by omega) 0) 0 2 (by omega) w) 0 3 (by omega) h) 0 4 (by omega) 0) 0 5 (by omega) 0) 0 6 (by omega) w) 0 7 (by omega) h) 0 8 (by omega) 0) 0 9 (by omega) 0
 have hb2:Below U.heap.size U W2:=by rw[<-hW2];have k:∀{X:World} {o:Nat} {v:Value},Below U.heap.size U X->Below U.heap.size U (X.setCell ⟨pb,o,none⟩ v):=fun hX=>hX.setCell (by show U.heap.size≤pb;omega) _;exact k (k (k (k (k (k (k (k (k (k hb1)))))))))
 have pz:∀i,P i 8=0∧P i 9=0:=fun i=>by rw[<-hP];unfold putAt;constructor<;>simp
 have p0:P 0 0=0∧P 0 1=0∧P 0 2=w∧P 0 3=h∧P 0 4=0∧P 0 5=0∧P 0 6=w∧P 0 7=h:=by rw[<-hP];refine⟨rfl,rfl,rfl,rfl,rfl,rfl,rfl,rfl⟩
 have hpre:LyPre en P 0:=⟨by omega,by omega,by omega,by omega,fun i _ _=>pz i⟩;have e0:en 0=L.length:=by
  have h1:=he.le 0 hpos;have h2:∀n i,i<n->i<L.length->i<en 0:=fun n=>by
   induction n with
   |zero=>intro i q;omega
   |succ n ih=>
    intro i _ hi;by_cases q:i=0;·rw[q];exact he.lt 0 hpos
    ·obtain⟨u,k,hu,hk,hck,_⟩:=hT.kid_of i (by omega) hi;have q1:=ih u (by omega) (by omega);have q2:=he.sub 0 u hpos (Nat.zero_le _) q1;have q3:=he.kid u k (by omega) hk;have q4:=he.st_mono hT (k:=u) (by omega) hk;have q5:=he.st_end hT (k:=u) (by omega) (j:=k+1) (by omega);omega
  have h3:=h2 L.length (L.length-1) (by omega) (by omega);omega
 have LY:Hid (Calls prog 67 #[Sq g N cap,Sq pb N N,Iq 0,.slice sp sn sc] W2 fun e u'=>e=.returned (.tuple #[])∧Hid (RPlOut U u' L Wd H w h idf off sn pb)):=by rw[<-hNe];rw[<-hNe]at hr2;refine(lay_all hT hZ he g cap pb L.length sp sn sc idf off U hN hsc hsn (by omega) L.length 0 (by omega) hpos P W2 hb2 hr2 hpre).mono ?_;rintro e u' ⟨rfl,z⟩;obtain⟨z1,Q,z2,z3,z4,z5⟩:=z.out;refine⟨rfl,gb_below hb2 z1 (by omega),Q,z2,PlTo.all hT hZ hw hh ?_ fun i hi=>z3 i (Nat.zero_le _) (by omega)⟩;rw[z5 0 (by omega),z5 1 (by omega),z5 2 (by omega),z5 3 (by omega),z5 4 (by omega),z5 5 (by omega),z5 6 (by omega),z5 7 (by omega)];exact p0
 have d0:W1.cell? ⟨pb,0,none⟩=some (Iq 0):=hr1.cell (by omega);have d1:W1.cell? ⟨pb,1,none⟩=some (Iq 0):=hr1.cell (by omega);have d2:W1.cell? ⟨pb,2,none⟩=some (Iq 0):=hr1.cell (by omega);have d3:W1.cell? ⟨pb,3,none⟩=some (Iq 0):=hr1.cell (by omega);have d4:W1.cell? ⟨pb,4,none⟩=some (Iq 0):=hr1.cell (by omega);have d5:W1.cell? ⟨pb,5,none⟩=some (Iq 0):=hr1.cell (by omega);have d6:W1.cell? ⟨pb,6,none⟩=some (Iq 0):=hr1.cell (by omega);have d7:W1.cell? ⟨pb,7,none⟩=some (Iq 0):=hr1.cell (by omega);have d8:W1.cell? ⟨pb,8,none⟩=some (Iq 0):=hr1.cell (by omega);have d9:W1.cell? ⟨pb,9,none⟩=some (Iq 0):=hr1.cell (by omega);have df:=hr1.frozen;have dl:=hr1.lt;have hposI:(0:Int)<(N:Int):=by omega
 have HNe:=qH<|hNe;rw[hNe];clear hr1 hr2 hb1 hb2 hP pz p0 hpre e0 hN hsc hT hZ he hNe;go_enter func37,ntmps37;go_wp2_with(go_at_call 67;refine Calls.mono LY ?_;rintro e u9 ⟨rfl,HO⟩);go_ret;exact⟨pb,rfl,HO⟩
