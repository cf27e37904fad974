import Derived.Test.YtmmaicpblnjdcaaGreatDoorB50
set_option linter.unusedVariables false
set_option maxRecDepth 100000
set_option maxHeartbeats 16000000
namespace Go.Proofs.YtmmaicpblnjdcaaGreatDoor
section
open Go.RowKit Go.Sort
theorem zei(s:ByteArray)(w h:Int)(sp:Option Addr)(sn sc:Nat)(idf off:Nat->Int)(E:Nat->Addr)(W:World)(hG:Glo W E)(hA:z2w W E)(hE:ErT W)(ht:z0z W)(hsc:Scr W sp sn idf off)(hsn:sn≤8796093022208) :
 Calls Tryz.prog 6 #[.string s,.int .i64 w,.int .i64 h,.slice sp sn sc] W fun e W'=>e=.returned (.bool true)∧Below W.heap.size W W':=by
 have hmix:Tryz.prog.follows .mixedOrders=true:=by kernel_rfl
 have RT:Hid (Calls Tryz.prog 7 #[.string s,.int .i64 w,.int .i64 h] W fun e U'=>e=.returned (.bool (z4v s w h))∧Hid (Below W.heap.size W U')):=z7a s w h W
 by_cases hr:z2h s w h
 ·rw[z48 hr] at RT
  have LD:Hid (∀u,Below W.heap.size W u->Calls Tryz.prog 8 #[.string s,.int .i64 w,.int .i64 h,.slice sp sn sc] u fun e U'=>∃ (L:List Nd) (g cap pb:Nat) (KV:Nat->Value) (P:Nat->Nat->Int),e=.returned (.tuple #[.slice (some ⟨g,0,none⟩) L.length cap,.slice (some ⟨pb,0,none⟩) L.length L.length,.bool true])∧Hid (NP U' g pb L KV P)∧Hid (Tree s L∧∃Wd H,PlTo L Wd H w h idf off sn P L.length)∧Hid (Below W.heap.size W U')):=fun u hu=>z8t hr sp sn sc idf off E W hG hA hE ht hsc hsn u hu
  clear hG hA hE ht hsc
  go_enter Tryz.func6,Tryz.ntmps6
  go_wp2_with (first|(go_at_call 7;refine RT.out.mono ?_;rintro e U1 ⟨rfl,HB1⟩)|(go_at_call 8;refine (LD.out _ HB1.out).mono ?_;rintro e U2 ⟨L,g,cap,pb,KV,P,rfl,HNP,HTP,HB2⟩))
  obtain⟨N,hN⟩:∃z,L.length=z:=⟨_,rfl⟩
  have HN:Hid (L.length=N):=hN
  have hN100:N≤100:=by have:=HTP.out.1.vl.cnt;omega
  rw[hN]
  clear hN RT LD
  go_loopw [13] (fun iv wr=>∃i:Nat,i≤N∧iv=.int .i64 (i:Int)∧Hid (Below U2.heap.size U2 wr)) (fun iv _=>N - (intOf iv).toNat)
  case atStart=>exact⟨0,Nat.zero_le _,rfl,Below.refl _ _⟩
  case round =>
   obtain⟨i,hi,rfl,HB⟩:=hrel
   by_cases hlt:i<N
   ·have hlt':(i:Int)<(N:Int):=by omega
    have hiL:i<L.length:=by have:=HN.out;omega
    have HNr:Hid (NP wr g pb L KV P):=HNP.out.below HB.out
    obtain⟨p0,hp0⟩:∃z,P i 0=z:=⟨_,rfl⟩
    obtain⟨p1,hp1⟩:∃z,P i 1=z:=⟨_,rfl⟩
    obtain⟨p2,hp2⟩:∃z,P i 2=z:=⟨_,rfl⟩
    obtain⟨p3,hp3⟩:∃z,P i 3=z:=⟨_,rfl⟩
    obtain⟨p4,hp4⟩:∃z,P i 4=z:=⟨_,rfl⟩
    obtain⟨p5,hp5⟩:∃z,P i 5=z:=⟨_,rfl⟩
    obtain⟨p6,hp6⟩:∃z,P i 6=z:=⟨_,rfl⟩
    obtain⟨p7,hp7⟩:∃z,P i 7=z:=⟨_,rfl⟩
    obtain⟨p8,hp8⟩:∃z,P i 8=z:=⟨_,rfl⟩
    obtain⟨p9,hp9⟩:∃z,P i 9=z:=⟨_,rfl⟩
    have y0:wr.cell? ⟨pb,i*10,none⟩=some (.int .i64 p0):=by rw[<-hp0];exact HNr.out.pl i 0 hiL (by omega)
    have y1:wr.cell? ⟨pb,i*10+1,none⟩=some (.int .i64 p1):=by rw[<-hp1];exact HNr.out.pl i 1 hiL (by omega)
    have y2:wr.cell? ⟨pb,i*10+2,none⟩=some (.int .i64 p2):=by rw[<-hp2];exact HNr.out.pl i 2 hiL (by omega)
    have y3:wr.cell? ⟨pb,i*10+3,none⟩=some (.int .i64 p3):=by rw[<-hp3];exact HNr.out.pl i 3 hiL (by omega)
    have y4:wr.cell? ⟨pb,i*10+4,none⟩=some (.int .i64 p4):=by rw[<-hp4];exact HNr.out.pl i 4 hiL (by omega)
    have y5:wr.cell? ⟨pb,i*10+5,none⟩=some (.int .i64 p5):=by rw[<-hp5];exact HNr.out.pl i 5 hiL (by omega)
    have y6:wr.cell? ⟨pb,i*10+6,none⟩=some (.int .i64 p6):=by rw[<-hp6];exact HNr.out.pl i 6 hiL (by omega)
    have y7:wr.cell? ⟨pb,i*10+7,none⟩=some (.int .i64 p7):=by rw[<-hp7];exact HNr.out.pl i 7 hiL (by omega)
    have y8:wr.cell? ⟨pb,i*10+8,none⟩=some (.int .i64 p8):=by rw[<-hp8];exact HNr.out.pl i 8 hiL (by omega)
    have y9:wr.cell? ⟨pb,i*10+9,none⟩=some (.int .i64 p9):=by rw[<-hp9];exact HNr.out.pl i 9 hiL (by omega)
    obtain⟨W1,hW1⟩:∃z,wr.alloc (.cells #[.int .i64 p0,.int .i64 p1,.int .i64 p2,.int .i64 p3,.int .i64 p4,.int .i64 p5,.int .i64 p6,.int .i64 p7,.int .i64 p8,.int .i64 p9] 32)=z:=⟨_,rfl⟩
    obtain⟨An,hAn⟩:∃z,wr.heap.size=z:=⟨_,rfl⟩
    have hat:W1.heap[An]?=some (.cells #[.int .i64 p0,.int .i64 p1,.int .i64 p2,.int .i64 p3,.int .i64 p4,.int .i64 p5,.int .i64 p6,.int .i64 p7,.int .i64 p8,.int .i64 p9] 32 (0,0)):=by rw[<-hW1,<-hAn];exact heap_alloc_new _ _
    have HB1':Hid (Below wr.heap.size wr W1):=by rw[<-hW1];exact ((Gr.refl wr).alloc _).below
    have HBU:Hid (Below U2.heap.size U2 W1):=HB.out.trans (HB1'.out.mono HB.out.size)
    have HN1:Hid (NP W1 g pb L KV P):=HNr.out.below HB1'.out
    have z8:W1.cell? ⟨An,8,none⟩=some (.int .i64 p8):=by rw[Lib.cell_of_heap hat];rfl
    have z9:W1.cell? ⟨An,9,none⟩=some (.int .i64 p9):=by rw[Lib.cell_of_heap hat];rfl
    obtain⟨n0,n1,n14,n15⟩:=HN1.out.node hiL
    have n1:=n1 0 (by omega)
    obtain⟨Wd,H,hP⟩:=HTP.out.2
    by_cases h4:(nth L i).kind=4
    ·obtain⟨f0,f1,f2,f3,f4,f5,f6,f7⟩:=hP.scroll HTP.out.1 hiL h4
     obtain⟨kp,kc,hkv,hki⟩:=HN1.out.kid i hiL
     obtain⟨kb,ko,rfl,hkc⟩:=hki.resolve_left (by omega)
     have k0:W1.cell? ⟨kb,ko,none⟩=some (.int .i64 (kdn (nth L i).kids 0:Int)):=hkc 0 (by omega)
     rw[hkv,f0] at n14
     have hkl:=z3a HTP.out.1 hiL (j:=0) (by omega)
     obtain⟨c,hc⟩:∃z,kdn (nth L i).kids 0=z:=⟨_,rfl⟩
     rw[hc] at k0 hkl f3 f4 f5 f6
     rw[h4] at n0
     have hbi:=hP.bd i hiL
     have hbc:=hP.bd c hkl.2
     have c0:W1.cell? ⟨pb,c*10,none⟩=some (.int .i64 p0):=by rw[<-hp0,<-f3];exact HN1.out.pl c 0 hkl.2 (by omega)
     have c1:W1.cell? ⟨pb,c*10+1,none⟩=some (.int .i64 (p1 - p8)):=by rw[<-hp1,<-hp8,<-f4];exact HN1.out.pl c 1 hkl.2 (by omega)
     have c2:W1.cell? ⟨pb,c*10+2,none⟩=some (.int .i64 p2):=by rw[<-hp2,<-f5];exact HN1.out.pl c 2 hkl.2 (by omega)
     have c3:W1.cell? ⟨pb,c*10+3,none⟩=some (.int .i64 (p3+p9)):=by rw[<-hp3,<-hp9,<-f6];exact HN1.out.pl c 3 hkl.2 (by omega)
     obtain⟨a0,ha0⟩:∃z,atN (nth L i) 0=z:=⟨_,rfl⟩
     rw[ha0] at n1 f7
     rw[hp8] at f1 f2 f7
     rw[hp9] at f2
     rw[hp3] at hbi
     rw[hp1] at hbi
     have hcN:(c:Int)<(N:Int):=by have:=HN.out;omega
     have hic:(i:Int)<(c:Int):=by omega
     have hb1 : -20000000000≤p1∧p1≤20000000000:=by omega
     have hb8:0≤p8∧p8≤200000:=by omega
     have hb9:0≤p9∧p9≤200000:=by omega
     have hb3:0≤p3∧p3≤100000:=by omega
     obtain⟨hb10,hb11⟩:=hb1
     obtain⟨hb80,hb81⟩:=hb8
     obtain⟨hb90,hb91⟩:=hb9
     obtain⟨hb30,hb31⟩:=hb3
     have d1:decide (p8<0)=false:=decide_eq_false (by omega)
     have d2:decide (p9<p8)=false:=decide_eq_false (by omega)
     have d3:decide (p9<0)=false:=decide_eq_false (by omega)
     have d4:decide ((c:Int)≤(i:Int))=false:=decide_eq_false (by omega)
     have d5:decide ((N:Int)≤(c:Int))=false:=decide_eq_false (by omega)
     obtain⟨W2,hW2⟩:∃z,W1.alloc (.cells #[.int .i64 p0,.int .i64 (p1 - p8),.int .i64 p2,.int .i64 (p3+p9)] 30)=z:=⟨_,rfl⟩
     obtain⟨Aq,hAq⟩:∃z,W1.heap.size=z:=⟨_,rfl⟩
     have hat2:W2.heap[Aq]?=some (.cells #[.int .i64 p0,.int .i64 (p1 - p8),.int .i64 p2,.int .i64 (p3+p9)] 30 (0,0)):=by rw[<-hW2,<-hAq];exact heap_alloc_new _ _
     have HB2':Hid (Below W1.heap.size W1 W2):=by rw[<-hW2];exact ((Gr.refl W1).alloc _).below
     have HBV:Hid (Below U2.heap.size U2 W2):=HBU.out.trans (HB2'.out.mono HBU.out.size)
     have x0:W2.cell? ⟨Aq,0,none⟩=some (.int .i64 p0):=by rw[Lib.cell_of_heap hat2];rfl
     have x1:W2.cell? ⟨Aq,1,none⟩=some (.int .i64 (p1 - p8)):=by rw[Lib.cell_of_heap hat2];rfl
     have x2:W2.cell? ⟨Aq,2,none⟩=some (.int .i64 p2):=by rw[Lib.cell_of_heap hat2];rfl
     have x3:W2.cell? ⟨Aq,3,none⟩=some (.int .i64 (p3+p9)):=by rw[Lib.cell_of_heap hat2];rfl
     have v0:W2.cell? ⟨An,0,none⟩=some (.int .i64 p0):=z0k HB2'.out (by rw[Lib.cell_of_heap hat];rfl)
     have v1:W2.cell? ⟨An,1,none⟩=some (.int .i64 p1):=z0k HB2'.out (by rw[Lib.cell_of_heap hat];rfl)
     have v2:W2.cell? ⟨An,2,none⟩=some (.int .i64 p2):=z0k HB2'.out (by rw[Lib.cell_of_heap hat];rfl)
     have v3:W2.cell? ⟨An,3,none⟩=some (.int .i64 p3):=z0k HB2'.out (by rw[Lib.cell_of_heap hat];rfl)
     have v8:W2.cell? ⟨An,8,none⟩=some (.int .i64 p8):=z0k HB2'.out z8
     have v9:W2.cell? ⟨An,9,none⟩=some (.int .i64 p9):=z0k HB2'.out z9
     have m1:W2.cell? ⟨g,i*16+1,none⟩=some (.int .i64 a0):=z0k HB2'.out n1
     clear hp0 hp1 hp2 hp3 hp4 hp5 hp6 hp7 hp8 hp9 hat hat2 hP f0 f3 f4 f5 f6 hkc hkv hki hc hbi hbc h4 ha0
     by_cases ha:a0=0
     ·have h80:=f7 ha
      have e1:(a0==0)=true:=by rw[ha];rfl
      have e2:(p8 != 0)=false:=by rw[h80];rfl
      clear f7 h80 ha
      go_wp2
      go_roundw
      case rel=>exact⟨i+1,by omega,by go_num,HBV.out⟩
      case measure=>simp[intOf];omega
     ·have e1:(a0==0)=false:=by simp;exact ha
      clear f7 ha
      go_wp2
      go_roundw
      case rel=>exact⟨i+1,by omega,by go_num,HBV.out⟩
      case measure=>simp[intOf];omega
    ·obtain⟨r8,r9⟩:=hP.no i hiL (.inr h4)
     rw[hp8] at r8
     rw[hp9] at r9
     obtain⟨kd,hkd⟩:∃z:Int,((nth L i).kind:Int)=z:=⟨_,rfl⟩
     rw[hkd] at n0
     have e4:(kd != 4)=true:=by simp;omega
     have e8:(p8 != 0)=false:=by rw[r8];rfl
     have e9:(p9 != 0)=false:=by rw[r9];rfl
     clear hp0 hp1 hp2 hp3 hp4 hp5 hp6 hp7 hp8 hp9 hat hP n1 n14 n15 r8 r9 hkd h4
     go_wp2
     go_roundw
     case rel=>exact⟨i+1,by omega,by go_num,HBU.out⟩
     case measure=>simp[intOf];omega
   ·have hlt':¬(i:Int)<(N:Int):=by omega
    go_wp2
    go_ret
    exact⟨rfl,HB2.out.trans (HB.out.mono HB2.out.size)⟩
 ·rw[z47 hr] at RT
  have LD:Hid (∀u,Below W.heap.size W u->Calls Tryz.prog 8 #[.string s,.int .i64 w,.int .i64 h,.slice sp sn sc] u fun e U'=>∃a b,e=.returned (.tuple #[a,b,.bool false])∧Hid (Below W.heap.size W U')):=fun u hu=>zc6 hr sp sn sc idf off E W hG hA hE ht hsc hsn u hu
  clear hG hA hE ht hsc
  go_enter Tryz.func6,Tryz.ntmps6
  go_wp2_with (first|(go_at_call 7;refine RT.out.mono ?_;rintro e U1 ⟨rfl,HB1⟩)|(go_at_call 8;refine (LD.out _ HB1.out).mono ?_;rintro e U2 ⟨a,b,rfl,HB2⟩))
  go_loopw [13] (fun iv wr=>iv=.int .i64 0∧wr=U2) (fun _ _=>0)
  case atStart=>exact⟨rfl,rfl⟩
  case round =>
   obtain⟨rfl,rfl⟩:=hrel
   go_wp2
   go_ret
   exact⟨rfl,HB2.out⟩
end
end Go.Proofs.YtmmaicpblnjdcaaGreatDoor
