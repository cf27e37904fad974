import Derived.Test.YtadhgppeafpdgaaGreatDoorQ24
import Derived.Test.YtadhgppeafpdgaaGreatDoorQ29
set_option linter.all false
set_option maxRecDepth 100000
set_option maxHeartbeats 16000000
namespace Go.Proofs.YtadhgppeafpdgaaGreatDoor
open Go.RowKit Go.Sort
theorem iu{w w':World}(h:Bt w w')(e:TypeId)(b:Option Nat):Lib.OthersKept e b w w':=fun k o hk _ _=>(h.block k (az.1 hk).1).trans hk
section
variable{Q Q':World} {B b:Nat} {p v:Value} {W a f g d:Int} {l:List UInt8}
theorem cL.up(h:cL Q B b p v W a f g d l)(hb:Bt Q Q'):cL Q' B b p v W a f g d l:=by
 refine⟨h.low,h.hp,(hb.block b h.lt).trans h.at_,⟨h.own.1,?_⟩,h.ne⟩;rcases h.own.2 with q|⟨c,cap,cM,fz,hv,hB,hg,r⟩;·exact .inl q
 ·exact .inr ⟨c,cap,cM,fz,hv,hB,(hb.block c (az.1 hg).1).trans hg,r⟩
theorem cL.at3(h:cL Q B b p v W a f g d l)(a':Int):cL (Q.setCell (aq b 3) (.int .i64 a')) B b p v W a' f g d l:=⟨h.low,h.hp,(h.set 3 _).1,(h.set 3 _).2,h.ne⟩
theorem cL.at4(h:cL Q B b p v W a f g d l)(u:Int):cL (Q.setCell (aq b 4) (.int .i64 u)) B b p v W a u g d l:=⟨h.low,h.hp,(h.set 4 _).1,(h.set 4 _).2,h.ne⟩
theorem cL.at5(h:cL Q B b p v W a f g d l)(u:Int):cL (Q.setCell (aq b 5) (.int .i64 u)) B b p v W a f u d l:=⟨h.low,h.hp,(h.set 5 _).1,(h.set 5 _).2,h.ne⟩
theorem cL.at6(h:cL Q B b p v W a f g d l)(u:Int):cL (Q.setCell (aq b 6) (.int .i64 u)) B b p v W a f g u l:=⟨h.low,h.hp,(h.set 6 _).1,(h.set 6 _).2,h.ne⟩
end
def aU(w w':World)(B b:Nat)(W a f g d:Int)(l:List UInt8):Prop:=∃p' v',cL w' B b p' v' W a f g d l/\Below B w w'/\Lib.OthersKept 5 (some b) w w'
theorem aU.start{w w0 w2:World}{B b:Nat}{W a f g d:Int}{l:List UInt8}(hg:Gr w w0)(hB:B<=w.heap.size)(h:aU w0 w2 B b W a f g d l):aU w w2 B b W a f g d l:=by obtain⟨p',v',h1,h2,h3⟩:=h;exact⟨p',v',h1,(hg.below.mono hB).trans h2,(iu hg.below _ _).trans h3⟩
theorem aU.block{w w2:World}{B b:Nat}{W a f g d:Int}{l:List UInt8}(h:aU w w2 B b W a f g d l){k:Nat}{cs:Array Value}{T:TypeId}{fz:Nat×Nat}(hk:w.heap[k]?=some (.cells cs T fz))(hb:k≠b)(hT:T≠5):w2.heap[k]?=some (.cells cs T fz):=by obtain⟨p',v',h1,h2,h3⟩:=h;refine h3 k _ hk (fun e=>hb (gZ e)) fun c z e=>hT ?_;injection e
theorem aU.drew{w w2:World}{B b:Nat}{W a f g d:Int}{l:List UInt8}(h:aU w w2 B b W a f g d l):aU w w2.drew B b W a f g d l:=by obtain⟨p',v',h1,h2,h3⟩:=h;exact⟨p',v',h1.up ((Gr.refl w2).drew.below),l_ h2,h3.drew⟩
theorem aU.at3{w w2:World}{B b:Nat}{W a f g d:Int}{l:List UInt8}(h:aU w w2 B b W a f g d l)(a':Int):aU w (w2.setCell (aq b 3) (.int .i64 a')) B b W a' f g d l:=by obtain⟨p',v',h1,h2,h3⟩:=h;exact⟨p',v',h1.at3 a',h2.setCell (p:=(aq b 3)) h1.low _,h3.setCell (aq b 3) rfl _⟩
theorem aU.sty{w w2:World}{B b:Nat}{W a f g d:Int}{l:List UInt8}(h:aU w w2 B b W a f g d l)(f' g' d':Int):aU w (((w2.setCell (aq b 4) (.int .i64 f')).setCell (aq b 5) (.int .i64 g')).setCell (aq b 6) (.int .i64 d')) B b W a f' g' d' l:=by obtain⟨p',v',h1,h2,h3⟩:=h;exact⟨p',v',((h1.at4 f').at5 g').at6 d',((h2.setCell (p:=(aq b 4)) h1.low _).setCell (p:=(aq b 5)) h1.low _).setCell (p:=(aq b 6)) h1.low _,((h3.setCell (aq b 4) rfl _).setCell (aq b 5) rfl _).setCell (aq b 6) rfl _⟩
theorem qz(w:World)(o:Obj):(w.alloc o).heap[w.heap.size]?=some o:=by show(w.heap.push o)[w.heap.size]?=some o;exact I7
theorem K_(B b:Nat)(p v:Value)(W a f g d:Int)(l:List UInt8)(t:ByteArray)(f2 g2 d2 q:Int)(w:World)(h:cL w B b p v W a f g d l)(aO:l.length+t.size<=140737488355328)(hBw:B<=w.heap.size)(ha:-1<=a/\a<=1000000):
 Calls Tryz.prog 70 #[.pointer (some (aq b 0)),.agg #[.string t,.int .i64 f2,.int .i64 g2,.int .i64 d2,.int .i64 q]] w fun e w'=>e=Rw (.tuple #[])/\Hid (aU w w' B b W (a+oD q) f g d (l++t.data.toList)):=by
 have hlt:b<w.heap.size:=h.lt;obtain⟨S,hS⟩:∃z,w.heap.size=z:=⟨_,rfl⟩;obtain⟨W0,bc⟩:∃z,w.alloc (.cells #[.string t,.int .i64 f2,.int .i64 g2,.int .i64 d2,.int .i64 q] 47)=z:=⟨_,rfl⟩;have G0:Hid (Gr w W0):=by rw[<-bc];exact(Gr.refl w).alloc _
 have N0:Hid (W0.heap[S]?=some (.cells #[.string t,.int .i64 f2,.int .i64 g2,.int .i64 d2,.int .i64 q] 47 (0,0))):=by rw[<-bc,<-hS];exact qz w _
 have n0:W0.cell? (aq S 0)=some (.string t):=by rw[Lib.cell_of_heap N0.out];rfl
 have HP:Hid (cL W0 B b p v W a f g d l):=h.up G0.out.below;have oI:B<=W0.heap.size:=aH hBw G0.out.size;have PW:Hid (∀w',w'=W0\/w'=W0.drew->Calls Tryz.prog 42 #[.pointer (some (aq b 0)),.string t] w' fun e w2=>e=Rw (.tuple #[.int .i64 t.size,.nilIface])/\Hid (aU W0 w2 B b W a f g d (l++t.data.toList))):=by
  rintro w' (rfl|rfl);·exact(eM B b p v W a f g d l t w' HP.out aO oI).mono fun e w2 ⟨he,h1⟩=>⟨he,_,h1⟩
  ·exact(eM B b p v W a f g d l t W0.drew (HP.out.up ((Gr.refl W0).drew.below)) aO oI).mono fun e w2 ⟨he,h1⟩=>⟨he,aU.start ((Gr.refl W0).drew) oI ⟨_,h1⟩⟩
 have CO:Hid (∀w,Calls Tryz.prog 123 #[.int .i64 q] w fun e w'=>e=Rw (.int .i64 (oD q))/\w'=w):=mZ q;have hc:0<=oD q/\oD q<=2:=by unfold oD;split;omega;split<;>omega
 have hwr:IntKind.i64.wrap (a+oD q)=a+oD q:=IntWalk.i64_in _ (by omega);clear h;go_enter Tryz.func70,Tryz.ntmps70;go_wp2_with fail;go_region_with(go_at_call 42;refine ai (PW.out _ (by first|exact .inl rfl|exact .inr rfl)) ?_;rintro e1 w1 ⟨rfl,HT⟩);all_goals
  have M0:w1.heap[S]?=some (.cells #[.string t,.int .i64 f2,.int .i64 g2,.int .i64 d2,.int .i64 q] 47 (0,0)):=HT.out.block N0.out (by omega) (by decide);have o4:w1.cell? (aq S 4)=some (.int .i64 q):=by rw[Lib.cell_of_heap M0];rfl
  have c3:w1.cell? (aq b 3)=some (.int .i64 a):=by obtain⟨p1,v1,fj,_⟩:=HT.out;exact fj.cell (k:=3) rfl
  have z3:w1.frozen? (aq b 3)=false:=by obtain⟨p1,v1,fj,_⟩:=HT.out;exact fj.fz 3
  clear M0;go_wp2_with fail;go_region_with(go_at_call 123;refine ai (CO.out _) ?_;rintro e2 w2 ⟨rfl,rfl⟩);all_goals go_wp2_with fail;go_end0;have X:=(HT.out.start G0.out hBw).at3 (a+oD q);exact⟨rfl,by first|exact X|exact X.drew|exact X.drew.drew|exact X.drew.drew.drew⟩
def Told(w w':World)(B b:Nat):Prop:=Below B w w'/\Lib.OthersKept 5 (some b) w w'
theorem Di(B b:Nat)(w:World)(hB:B<=b)(h1:w.cell? (aq b 1)=some (.slice none 0 0)):
 Calls Tryz.prog 44 #[.pointer (some (aq b 0))] w fun e w'=>e=Rw (.string ⟨#[]⟩)/\Hid (Told w w' B b):=by
 have hUS:∀W q,(Builtin.unsafeString_ #[153,3] 9 #[.pointer q,.int .i64 0]).run Tryz.prog W=.ok (.string .empty) W:=fun W q=>Lib.run_unsafeString_none W _ _ _ q;have c1:w.drew.cell? (aq b 1)=some (.slice none 0 0):=h1;have hSD:(Builtin.unsafeSliceData_ #[106] 153 #[.slice none 0 0]).run Tryz.prog w.drew=.ok (.pointer none) w.drew:=rfl;have kU:Tryz.prog.follows .mixedOrders=true:=by kernel_rfl
 go_enter Tryz.func44,Tryz.ntmps44;go_wp2;go_region_o;all_goals(go_wp2;go_ret;exact⟨rfl,l_ (ag B w),(Lib.OthersKept.refl _ _ w).drew⟩)
theorem Dj(B b g cap:Nat)(w:World)(hB:B<=b)(hc:cap≠0)(h1:w.cell? (aq b 1)=some (.slice (some (aq g 0)) 0 cap)):
 Calls Tryz.prog 44 #[.pointer (some (aq b 0))] w fun e w'=>e=Rw (.string ⟨#[]⟩)/\Hid (Told w w' B b):=by
 have hUS:∀W q,(Builtin.unsafeString_ #[153,3] 9 #[.pointer q,.int .i64 0]).run Tryz.prog W=.ok (.string .empty) W:=fun W q=>Lib.run_unsafeString_none W _ _ _ q;have c1:w.drew.cell? (aq b 1)=some (.slice (some (aq g 0)) 0 cap):=h1;have hSD:(Builtin.unsafeSliceData_ #[106] 153 #[.slice (some (aq g 0)) 0 cap]).run Tryz.prog w.drew=.ok (.pointer (some (aq g 0))) w.drew:=Lib.run_unsafeSliceData_row _ _ _ _ _ _ hc;clear hc;have kU:Tryz.prog.follows .mixedOrders=true:=by kernel_rfl
 go_enter Tryz.func44,Tryz.ntmps44;go_wp2;go_region_o;all_goals(go_wp2;go_ret;exact⟨rfl,l_ (ag B w),(Lib.OthersKept.refl _ _ w).drew⟩)
theorem wU(B b g:Nat)(w:World)(hB:B<=b)(hBw:B<=w.heap.size)(hlt:b<w.heap.size)(cM:Array Value)(fz:Nat×Nat)(hg:w.heap[g]?=some (.cells cM 5 fz))(h1:w.cell? (aq b 1)=some (.slice (some (aq g 0)) 0 0)):
 Calls Tryz.prog 44 #[.pointer (some (aq b 0))] w fun e w'=>e=Rw (.string ⟨#[]⟩)/\Hid (Told w w' B b):=by
 have hUS:∀W q,(Builtin.unsafeString_ #[153,3] 9 #[.pointer q,.int .i64 0]).run Tryz.prog W=.ok (.string .empty) W:=fun W q=>Lib.run_unsafeString_none W _ _ _ q;have c1:w.drew.cell? (aq b 1)=some (.slice (some (aq g 0)) 0 0):=h1;have hSD:(Builtin.unsafeSliceData_ #[106] 153 #[.slice (some (aq g 0)) 0 0]).run Tryz.prog w.drew=.ok (.pointer (some (aq w.drew.heap.size 0))) (w.drew.alloc (.view (aq g 0) 5)):=
  Lib.run_unsafeSliceData_zero w.drew _ _ 5 (by kernel_rfl) (aq g 0) 0 (5,cM.size) (by have ur:w.drew.heap[g]?=some (.cells cM 5 fz):=hg;simp[World.shape?,ur]);have c2:(w.drew.alloc (.view (aq g 0) 5)).cell? (aq b 1)=some (.slice (some (aq g 0)) 0 0):=by rw[<-h1];exact(((Gr.refl w).drew).alloc _).below.cell (p:=(aq b 1)) hlt
 have c3:(w.alloc (.view (aq g 0) 5)).drew.cell? (aq b 1)=some (.slice (some (aq g 0)) 0 0):=c2;have kU:Tryz.prog.follows .mixedOrders=true:=by kernel_rfl
 go_enter Tryz.func44,Tryz.ntmps44;go_wp2;go_region_o;all_goals(go_wp2;go_ret;exact⟨rfl,(l_ (ag B w)).alloc hBw _,((Lib.OthersKept.refl _ _ w).drew).alloc _⟩)
theorem Dk(B b g cap:Nat)(l:List UInt8)(w:World)(hB:B<=b)(h0:l≠[])(cM:Array Value)(fz:Nat×Nat)(hg:w.heap[g]?=some (.cells cM 5 fz))(Tf:B<=g)(hc:l.length<=cap)(Tt:cap<=maxLen)(iD:cM.size=cap*1)(gT:∀(j:Nat) x,l[j]?=some x->w.cell? (((aq g 0):Addr).add j)=some (.int .u8 x.toNat))(h1:w.cell? (aq b 1)=some (.slice (some (aq g 0)) l.length cap)):
 Calls Tryz.prog 44 #[.pointer (some (aq b 0))] w fun e w'=>e=Rw (.string ⟨l.toArray⟩)/\Hid (Told w w' B b):=by
 have TB:l.length≠0:=by simpa using h0
 have c1:w.drew.cell? (aq b 1)=some (.slice (some (aq g 0)) l.length cap):=h1;have hSD:(Builtin.unsafeSliceData_ #[106] 153 #[.slice (some (aq g 0)) l.length cap]).run Tryz.prog w.drew=.ok (.pointer (some (aq g 0))) w.drew:=Lib.run_unsafeSliceData_row _ _ _ _ _ _ (by omega);have hUS:(Builtin.unsafeString_ #[153,3] 9 #[.pointer (some (aq g 0)),.int .i64 l.length]).run Tryz.prog w.drew=.ok (.string ⟨l.toArray⟩) (w.drew.freeze (aq g 0) l.length):=
  Lib.run_unsafeString_row w.drew 153 3 9 5 (by kernel_rfl) (by kernel_rfl) g cM.size (by have ur:w.drew.heap[g]?=some (.cells cM 5 fz):=hg;simp[World.shape?,ur]) l h0 (by omega) (by unfold maxLen at Tt;omega) gT;clear gT hc Tt iD TB;have kU:Tryz.prog.follows .mixedOrders=true:=by kernel_rfl
 go_enter Tryz.func44,Tryz.ntmps44;go_wp2;go_region_o;all_goals(go_wp2;go_ret;exact⟨rfl,Lib.below_freeze (l_ (ag B w)) (p:=(aq g 0)) Tf _,((Lib.OthersKept.refl _ _ w).drew).freeze (aq g 0) _ ⟨cM,fz,hg⟩⟩)
theorem va(B b:Nat)(p v:Value)(W a f g d:Int)(l:List UInt8)(w:World)(h:cL w B b p v W a f g d l)(hBw:B<=w.heap.size):
 Calls Tryz.prog 44 #[.pointer (some (aq b 0))] w fun e w'=>e=Rw (.string ⟨l.toArray⟩)/\Hid (Told w w' B b):=by
 have h1:w.cell? (aq b 1)=some v:=h.cell (k:=1) rfl;rcases h.own.2 with⟨rfl,hz⟩|⟨q,cap,cM,fz,rfl,Tf,hg,Wp,hnc,Tt,iD,Wz⟩;·obtain rfl:l=[]:=pH hz;exact Di B b w h.low h1
 ·by_cases h0:l=[]
  ·subst h0;by_cases hc:cap=0;·subst hc;exact wU B b q w h.low hBw h.lt cM fz hg h1
   ·exact Dj B b q cap w h.low hc h1
  ·exact Dk B b q cap l w h.low h0 cM fz hg Tf hnc Tt iD (fun j x hx=>h.own.cells (g:=q) rfl j (.int .u8 x.toNat) (by simp[Lib.byteCells,hx])) h1
