import Derived.Test.YtmmaicpblnjdcaaGreatDoorB50
import Derived.BigQuiet
set_option linter.unusedVariables false
set_option maxRecDepth 100000
set_option maxHeartbeats 16000000
namespace Go.Proofs.YtmmaicpblnjdcaaGreatDoor
section
open Go.RowKit Go.Sort
theorem zi5(s:ByteArray)(w h:Int)(sp:Option Addr)(sn sc:Nat)(idf off:Nat->Int)(E:Nat->Addr)(W:World)(hG:Glo W E)(hA:z2w W E)(hE:ErT W)(ht:z0z W)(hsc:Scr W sp sn idf off)(hsn:sn≤8796093022208) :
 Calls Tryz.prog 4 #[.string s,.int .i64 w,.int .i64 h,.slice sp sn sc] W fun e W'=>e=.returned (.bool true)∧Below W.heap.size W W':=by
 have hmix:Tryz.prog.follows .mixedOrders=true:=by kernel_rfl
 have RT:Hid (Calls Tryz.prog 7 #[.string s,.int .i64 w,.int .i64 h] W fun e U'=>e=.returned (.bool (z4v s w h))∧Hid (Below W.heap.size W U')):=z7a s w h W
 by_cases hr:z2h s w h
 ·rw[z48 hr] at RT
  have LD:Hid (∀u,Below W.heap.size W u->Calls Tryz.prog 8 #[.string s,.int .i64 w,.int .i64 h,.slice sp sn sc] u fun e U'=>∃ (L:List Nd) (g cap pb:Nat) (KV:Nat->Value) (P:Nat->Nat->Int),e=.returned (.tuple #[.slice (some ⟨g,0,none⟩) L.length cap,.slice (some ⟨pb,0,none⟩) L.length L.length,.bool true])∧Hid (NP U' g pb L KV P)∧Hid (Tree s L∧∃Wd H,PlTo L Wd H w h idf off sn P L.length)∧Hid (Below W.heap.size W U')):=fun u hu=>z8t hr sp sn sc idf off E W hG hA hE ht hsc hsn u hu
  clear hG hA hE ht hsc
  go_enter Tryz.func4,Tryz.ntmps4
  go_wp2_with (first|(go_at_call 7;refine RT.out.mono ?_;rintro e U1 ⟨rfl,HB1⟩)|(go_at_call 8;refine (LD.out _ HB1.out).mono ?_;rintro e U2 ⟨L,g,cap,pb,KV,P,rfl,HNP,HTP,HB2⟩))
  obtain⟨N,hN⟩:∃z,L.length=z:=⟨_,rfl⟩
  have HN:Hid (L.length=N):=hN
  have hN100:N≤100:=by have:=HTP.out.1.vl.cnt;omega
  rw[hN]
  clear hN RT LD
  go_loopw [13] (fun iv wr=>∃i:Nat,i≤N∧iv=.int .i64 (i:Int)∧Hid (Below U2.heap.size U2 wr)) (fun iv _=>N - (intOf iv).toNat)
  case atStart=>exact⟨0,Nat.zero_le _,rfl,Below.refl _ _⟩
  case round =>
   obtain⟨i,hi,rfl,HB⟩:=hrel
   by_cases hlt:i<N
   ·have hlt':(i:Int)<(N:Int):=by omega
    have hiL:i<L.length:=by have:=HN.out;omega
    have HNr:Hid (NP wr g pb L KV P):=HNP.out.below HB.out
    obtain⟨p0,hp0⟩:∃z,P i 0=z:=⟨_,rfl⟩
    obtain⟨p1,hp1⟩:∃z,P i 1=z:=⟨_,rfl⟩
    obtain⟨p2,hp2⟩:∃z,P i 2=z:=⟨_,rfl⟩
    obtain⟨p3,hp3⟩:∃z,P i 3=z:=⟨_,rfl⟩
    have y0:wr.cell? ⟨pb,i*10,none⟩=some (.int .i64 p0):=by rw[<-hp0];exact HNr.out.pl i 0 hiL (by omega)
    have y1:wr.cell? ⟨pb,i*10+1,none⟩=some (.int .i64 p1):=by rw[<-hp1];exact HNr.out.pl i 1 hiL (by omega)
    have y2:wr.cell? ⟨pb,i*10+2,none⟩=some (.int .i64 p2):=by rw[<-hp2];exact HNr.out.pl i 2 hiL (by omega)
    have y3:wr.cell? ⟨pb,i*10+3,none⟩=some (.int .i64 p3):=by rw[<-hp3];exact HNr.out.pl i 3 hiL (by omega)
    obtain⟨W1,hW1⟩:∃z,wr.alloc (.cells #[.int .i64 p0,.int .i64 p1,.int .i64 p2,.int .i64 p3] 30)=z:=⟨_,rfl⟩
    obtain⟨An,hAn⟩:∃z,wr.heap.size=z:=⟨_,rfl⟩
    have hat:W1.heap[An]?=some (.cells #[.int .i64 p0,.int .i64 p1,.int .i64 p2,.int .i64 p3] 30 (0,0)):=by rw[<-hW1,<-hAn];exact heap_alloc_new _ _
    have HB1':Hid (Below wr.heap.size wr W1):=by rw[<-hW1];exact ((Gr.refl wr).alloc _).below
    have HBU:Hid (Below U2.heap.size U2 W1):=HB.out.trans (HB1'.out.mono HB.out.size)
    have HN1:Hid (NP W1 g pb L KV P):=HNr.out.below HB1'.out
    obtain⟨n0,n1,n14,n15⟩:=HN1.out.node hiL
    have n5:=n1 4 (by omega)
    clear n1
    obtain⟨Wd,H,hP⟩:=HTP.out.2
    have hbi:=hP.bd i hiL
    by_cases h4:(nth L i).kind=0
    ·skip
     obtain⟨G,g1,g2,g3⟩:=hP.inRow HTP.out.1 hiL h4
     have hgap:=(HTP.out.1.vl.nv i hiL).bd.2.1
     obtain⟨kp,kc,hkv,hki⟩:=HN1.out.kid i hiL
     rw[hkv] at n14
     have hkl:=HTP.out.1.kids_le hiL
     have HKL:Hid (∀j,j<(nth L i).kids.length->i<kdn (nth L i).kids j∧kdn (nth L i).kids j<L.length):=fun j hj=>z3a HTP.out.1 hiL hj
     have HG:Hid (∀j,j<(nth L i).kids.length->0≤G j∧G j≤100000):=g2
     have HK:Hid (∀j,j<(nth L i).kids.length->P (kdn (nth L i).kids j) 0=P i 0+offs G (atN (nth L i) 4) j∧P (kdn (nth L i).kids j) 1=P i 1∧P (kdn (nth L i).kids j) 2=G j∧P (kdn (nth L i).kids j) 3=P i 3):=g3
     have HKC:Hid ((nth L i).kids.length=0∨∃b o,kp=some ⟨b,o,none⟩∧∀t,t<(nth L i).kids.length->W1.cell? ⟨b,o+t,none⟩=some (.int .i64 (kdn (nth L i).kids t:Int))):=hki
     rw[hp0,hp1,hp2,hp3] at hbi
     rw[hp0,hp1,hp3] at HK
     rw[h4] at n0
     generalize atN (nth L i) 4=gp at n5 HK hgap
     generalize (nth L i).kids=ks at n14 HKL HG HK HKC hkl
     obtain⟨m,hm⟩:∃z,ks.length=z:=⟨_,rfl⟩
     rw[hm] at n14 HKL HG HK HKC hkl
     have hb : -20000000000≤p0∧p0≤20000000000 ∧ -20000000000≤p1∧p1≤20000000000∧0≤p2∧p2≤100000∧0≤p3∧p3≤100000:=by omega
     obtain⟨b0,b1,b2,b3,b4,b5,b6,b7⟩:=hb
     obtain⟨gp0,gp1⟩:=hgap
     have HAT:Hid (W1.heap[An]?=some (.cells #[.int .i64 p0,.int .i64 p1,.int .i64 p2,.int .i64 p3] 30 (0,0))):=hat
     have HC0:Hid (W1.cell? ⟨g,i*16,none⟩=some (.int .i64 0)∧W1.cell? ⟨g,i*16+5,none⟩=some (.int .i64 gp)∧W1.cell? ⟨g,i*16+14,none⟩=some (.slice kp m kc)):=⟨n0,n5,n14⟩
     clear hp0 hp1 hp2 hp3 hat hP g2 g3 g1 hkv hki hbi h4 n15 hm
     go_wp2
     clear y0 y1 y2 y3 hW1 hAn n0 n5 n14
     go_loopw [15,16] (fun av kv wz=>∃ (k:Nat) (at_:Int),k≤m∧kv=.int .i64 (k:Int)∧av=.int .i64 at_∧0≤at_∧at_≤(k:Int)*200000∧Hid (at_=offs G gp k)∧Hid (Below W1.heap.size W1 wz)) (fun _ kv _=>m - (intOf kv).toNat)
     case atStart=>exact⟨0,0,Nat.zero_le _,rfl,rfl,by omega,by omega,rfl,Below.refl _ _⟩
     case round =>
      obtain⟨k,at_,hk,rfl,rfl,ha0,ha1,HAt,HBk⟩:=hrel
      have n0:wr.cell? ⟨g,i*16,none⟩=some (.int .i64 0):=z0k HBk.out HC0.out.1
      have n5:wr.cell? ⟨g,i*16+5,none⟩=some (.int .i64 gp):=z0k HBk.out HC0.out.2.1
      have n14:wr.cell? ⟨g,i*16+14,none⟩=some (.slice kp m kc):=z0k HBk.out HC0.out.2.2
      by_cases hkt:k<m
      ·have hkt':(k:Int)<(m:Int):=by omega
       obtain⟨kb,ko,rfl,hkc⟩:=HKC.out.resolve_left (by omega)
       have hkk:=HKL.out k hkt
       have hgk:=HG.out k hkt
       obtain⟨w0,w1,w2,w3⟩:=HK.out k hkt
       have kk:=z0k HBk.out (hkc k hkt)
       obtain⟨c,hc⟩:∃z,kdn ks k=z:=⟨_,rfl⟩
       rw[hc] at hkk w0 w1 w2 w3 kk
       obtain⟨gk,hgk2⟩:∃z,G k=z:=⟨_,rfl⟩
       rw[hgk2] at hgk w2
       rw[<-HAt.out] at w0
       have HNw:Hid (NP wr g pb L KV P):=HN1.out.below HBk.out
       have c0:wr.cell? ⟨pb,c*10,none⟩=some (.int .i64 (p0+at_)):=by rw[<-w0];exact HNw.out.pl c 0 hkk.2 (by omega)
       have c1:wr.cell? ⟨pb,c*10+1,none⟩=some (.int .i64 p1):=by rw[<-w1];exact HNw.out.pl c 1 hkk.2 (by omega)
       have c2:wr.cell? ⟨pb,c*10+2,none⟩=some (.int .i64 gk):=by rw[<-w2];exact HNw.out.pl c 2 hkk.2 (by omega)
       have c3:wr.cell? ⟨pb,c*10+3,none⟩=some (.int .i64 p3):=by rw[<-w3];exact HNw.out.pl c 3 hkk.2 (by omega)
       have hcN:(c:Int)<(N:Int):=by have:=HN.out;omega
       have hic:(i:Int)<(c:Int):=by omega
       have d4:decide ((c:Int)≤(i:Int))=false:=decide_eq_false (by omega)
       have d5:decide ((N:Int)≤(c:Int))=false:=decide_eq_false (by omega)
       obtain⟨hg0,hg1⟩:=hgk
       have d6:decide (gk<0)=false:=decide_eq_false (by omega)
       have ha2:at_≤20000000:=by omega
       have wv1:IntKind.i64.wrap (at_+gk)=at_+gk:=IntWalk.i64_in _ ⟨by omega,by omega⟩
       have wv2:IntKind.i64.wrap (at_+gk+gp)=at_+gk+gp:=IntWalk.i64_in _ ⟨by omega,by omega⟩
       have HA2:Hid (at_+gk+gp=offs G gp (k+1)):=by rw[z9t,<-HAt.out,hgk2];show _=_;omega
       obtain⟨W2,hW2⟩:∃z,wr.alloc (.cells #[.int .i64 (p0+at_),.int .i64 p1,.int .i64 gk,.int .i64 p3] 30)=z:=⟨_,rfl⟩
       obtain⟨Aq,hAq⟩:∃z,wr.heap.size=z:=⟨_,rfl⟩
       have hat2:W2.heap[Aq]?=some (.cells #[.int .i64 (p0+at_),.int .i64 p1,.int .i64 gk,.int .i64 p3] 30 (0,0)):=by rw[<-hW2,<-hAq];exact heap_alloc_new _ _
       have HB2':Hid (Below wr.heap.size wr W2):=by rw[<-hW2];exact ((Gr.refl wr).alloc _).below
       have HBV:Hid (Below W1.heap.size W1 W2):=HBk.out.trans (HB2'.out.mono HBk.out.size)
       have x0:W2.cell? ⟨Aq,0,none⟩=some (.int .i64 (p0+at_)):=by rw[Lib.cell_of_heap hat2];rfl
       have x1:W2.cell? ⟨Aq,1,none⟩=some (.int .i64 p1):=by rw[Lib.cell_of_heap hat2];rfl
       have x2:W2.cell? ⟨Aq,2,none⟩=some (.int .i64 gk):=by rw[Lib.cell_of_heap hat2];rfl
       have x3:W2.cell? ⟨Aq,3,none⟩=some (.int .i64 p3):=by rw[Lib.cell_of_heap hat2];rfl
       have v0:W2.cell? ⟨An,0,none⟩=some (.int .i64 p0):=z0k HBV.out (by rw[Lib.cell_of_heap HAT.out];rfl)
       have v1:W2.cell? ⟨An,1,none⟩=some (.int .i64 p1):=z0k HBV.out (by rw[Lib.cell_of_heap HAT.out];rfl)
       have v2:W2.cell? ⟨An,2,none⟩=some (.int .i64 p2):=z0k HBV.out (by rw[Lib.cell_of_heap HAT.out];rfl)
       have v3:W2.cell? ⟨An,3,none⟩=some (.int .i64 p3):=z0k HBV.out (by rw[Lib.cell_of_heap HAT.out];rfl)
       have m0:W2.cell? ⟨g,i*16,none⟩=some (.int .i64 0):=z0k HBV.out HC0.out.1
       have m5:W2.cell? ⟨g,i*16+5,none⟩=some (.int .i64 gp):=z0k HBV.out HC0.out.2.1
       clear hat2 w0 w1 w2 w3 hgk2 hc hkc hkk
       have HHA:Hid (at_=offs G gp k):=HAt
       clear HAt
       go_wp2_with fail
       go_quiet (fail)
       go_wp2
       go_roundw
       case rel=>exact⟨k+1,at_+gk+gp,by omega,by go_num,by go_num,by omega,by push_cast;omega,HA2.out,by first|exact HBV.out|exact z0v HBV.out _⟩
       case measure=>simp[intOf];omega
      ·have hkt':¬(k:Int)<(m:Int):=by omega
       go_wp2
       go_roundw
       case rel=>exact⟨i+1,by omega,by go_num,HBU.out.trans (HBk.out.mono HBU.out.size)⟩
       case measure=>simp[intOf];omega
    ·by_cases h5:(nth L i).kind=1
     ·have h4:=h5
      clear h5
      obtain⟨G,g2,g3⟩:=hP.inCol HTP.out.1 hiL h4
      have hgap:=(HTP.out.1.vl.nv i hiL).bd.2.1
      obtain⟨kp,kc,hkv,hki⟩:=HN1.out.kid i hiL
      rw[hkv] at n14
      have hkl:=HTP.out.1.kids_le hiL
      have HKL:Hid (∀j,j<(nth L i).kids.length->i<kdn (nth L i).kids j∧kdn (nth L i).kids j<L.length):=fun j hj=>z3a HTP.out.1 hiL hj
      have HG:Hid (∀j,j<(nth L i).kids.length->0≤G j∧G j≤100000):=g2
      have HK:Hid (∀j,j<(nth L i).kids.length->P (kdn (nth L i).kids j) 0=P i 0∧P (kdn (nth L i).kids j) 1=P i 1+offs G (atN (nth L i) 4) j∧P (kdn (nth L i).kids j) 2=P i 2∧P (kdn (nth L i).kids j) 3=G j):=g3
      have HKC:Hid ((nth L i).kids.length=0∨∃b o,kp=some ⟨b,o,none⟩∧∀t,t<(nth L i).kids.length->W1.cell? ⟨b,o+t,none⟩=some (.int .i64 (kdn (nth L i).kids t:Int))):=hki
      rw[hp0,hp1,hp2,hp3] at hbi
      rw[hp0,hp1,hp2] at HK
      rw[h4] at n0
      generalize atN (nth L i) 4=gp at n5 HK hgap
      generalize (nth L i).kids=ks at n14 HKL HG HK HKC hkl
      obtain⟨m,hm⟩:∃z,ks.length=z:=⟨_,rfl⟩
      rw[hm] at n14 HKL HG HK HKC hkl
      have hb : -20000000000≤p0∧p0≤20000000000 ∧ -20000000000≤p1∧p1≤20000000000∧0≤p2∧p2≤100000∧0≤p3∧p3≤100000:=by omega
      obtain⟨b0,b1,b2,b3,b4,b5,b6,b7⟩:=hb
      obtain⟨gp0,gp1⟩:=hgap
      have HAT:Hid (W1.heap[An]?=some (.cells #[.int .i64 p0,.int .i64 p1,.int .i64 p2,.int .i64 p3] 30 (0,0))):=hat
      have HC0:Hid (W1.cell? ⟨g,i*16,none⟩=some (.int .i64 1)∧W1.cell? ⟨g,i*16+5,none⟩=some (.int .i64 gp)∧W1.cell? ⟨g,i*16+14,none⟩=some (.slice kp m kc)):=⟨n0,n5,n14⟩
      clear hp0 hp1 hp2 hp3 hat hP g2 g3 hkv hki hbi h4 n15 hm
      go_wp2
      clear y0 y1 y2 y3 hW1 hAn n0 n5 n14
      go_loopw [15,16] (fun av kv wz=>∃ (k:Nat) (at_:Int),k≤m∧kv=.int .i64 (k:Int)∧av=.int .i64 at_∧0≤at_∧at_≤(k:Int)*200000∧Hid (at_=offs G gp k)∧Hid (Below W1.heap.size W1 wz)) (fun _ kv _=>m - (intOf kv).toNat)
      case atStart=>exact⟨0,0,Nat.zero_le _,rfl,rfl,by omega,by omega,rfl,Below.refl _ _⟩
      case round =>
       obtain⟨k,at_,hk,rfl,rfl,ha0,ha1,HAt,HBk⟩:=hrel
       have n0:wr.cell? ⟨g,i*16,none⟩=some (.int .i64 1):=z0k HBk.out HC0.out.1
       have n5:wr.cell? ⟨g,i*16+5,none⟩=some (.int .i64 gp):=z0k HBk.out HC0.out.2.1
       have n14:wr.cell? ⟨g,i*16+14,none⟩=some (.slice kp m kc):=z0k HBk.out HC0.out.2.2
       by_cases hkt:k<m
       ·have hkt':(k:Int)<(m:Int):=by omega
        obtain⟨kb,ko,rfl,hkc⟩:=HKC.out.resolve_left (by omega)
        have hkk:=HKL.out k hkt
        have hgk:=HG.out k hkt
        obtain⟨w0,w1,w2,w3⟩:=HK.out k hkt
        have kk:=z0k HBk.out (hkc k hkt)
        obtain⟨c,hc⟩:∃z,kdn ks k=z:=⟨_,rfl⟩
        rw[hc] at hkk w0 w1 w2 w3 kk
        obtain⟨gk,hgk2⟩:∃z,G k=z:=⟨_,rfl⟩
        rw[hgk2] at hgk w3
        rw[<-HAt.out] at w1
        have HNw:Hid (NP wr g pb L KV P):=HN1.out.below HBk.out
        have c0:wr.cell? ⟨pb,c*10,none⟩=some (.int .i64 p0):=by rw[<-w0];exact HNw.out.pl c 0 hkk.2 (by omega)
        have c1:wr.cell? ⟨pb,c*10+1,none⟩=some (.int .i64 (p1+at_)):=by rw[<-w1];exact HNw.out.pl c 1 hkk.2 (by omega)
        have c2:wr.cell? ⟨pb,c*10+2,none⟩=some (.int .i64 p2):=by rw[<-w2];exact HNw.out.pl c 2 hkk.2 (by omega)
        have c3:wr.cell? ⟨pb,c*10+3,none⟩=some (.int .i64 gk):=by rw[<-w3];exact HNw.out.pl c 3 hkk.2 (by omega)
        have hcN:(c:Int)<(N:Int):=by have:=HN.out;omega
        have hic:(i:Int)<(c:Int):=by omega
        have d4:decide ((c:Int)≤(i:Int))=false:=decide_eq_false (by omega)
        have d5:decide ((N:Int)≤(c:Int))=false:=decide_eq_false (by omega)
        obtain⟨hg0,hg1⟩:=hgk
        have d6:decide (gk<0)=false:=decide_eq_false (by omega)
        have ha2:at_≤20000000:=by omega
        have wv1:IntKind.i64.wrap (at_+gk)=at_+gk:=IntWalk.i64_in _ ⟨by omega,by omega⟩
        have wv2:IntKind.i64.wrap (at_+gk+gp)=at_+gk+gp:=IntWalk.i64_in _ ⟨by omega,by omega⟩
        have HA2:Hid (at_+gk+gp=offs G gp (k+1)):=by rw[z9t,<-HAt.out,hgk2];show _=_;omega
        obtain⟨W2,hW2⟩:∃z,wr.alloc (.cells #[.int .i64 p0,.int .i64 (p1+at_),.int .i64 p2,.int .i64 gk] 30)=z:=⟨_,rfl⟩
        obtain⟨Aq,hAq⟩:∃z,wr.heap.size=z:=⟨_,rfl⟩
        have hat2:W2.heap[Aq]?=some (.cells #[.int .i64 p0,.int .i64 (p1+at_),.int .i64 p2,.int .i64 gk] 30 (0,0)):=by rw[<-hW2,<-hAq];exact heap_alloc_new _ _
        have HB2':Hid (Below wr.heap.size wr W2):=by rw[<-hW2];exact ((Gr.refl wr).alloc _).below
        have HBV:Hid (Below W1.heap.size W1 W2):=HBk.out.trans (HB2'.out.mono HBk.out.size)
        have x0:W2.cell? ⟨Aq,0,none⟩=some (.int .i64 p0):=by rw[Lib.cell_of_heap hat2];rfl
        have x1:W2.cell? ⟨Aq,1,none⟩=some (.int .i64 (p1+at_)):=by rw[Lib.cell_of_heap hat2];rfl
        have x2:W2.cell? ⟨Aq,2,none⟩=some (.int .i64 p2):=by rw[Lib.cell_of_heap hat2];rfl
        have x3:W2.cell? ⟨Aq,3,none⟩=some (.int .i64 gk):=by rw[Lib.cell_of_heap hat2];rfl
        have v0:W2.cell? ⟨An,0,none⟩=some (.int .i64 p0):=z0k HBV.out (by rw[Lib.cell_of_heap HAT.out];rfl)
        have v1:W2.cell? ⟨An,1,none⟩=some (.int .i64 p1):=z0k HBV.out (by rw[Lib.cell_of_heap HAT.out];rfl)
        have v2:W2.cell? ⟨An,2,none⟩=some (.int .i64 p2):=z0k HBV.out (by rw[Lib.cell_of_heap HAT.out];rfl)
        have v3:W2.cell? ⟨An,3,none⟩=some (.int .i64 p3):=z0k HBV.out (by rw[Lib.cell_of_heap HAT.out];rfl)
        have m0:W2.cell? ⟨g,i*16,none⟩=some (.int .i64 1):=z0k HBV.out HC0.out.1
        have m5:W2.cell? ⟨g,i*16+5,none⟩=some (.int .i64 gp):=z0k HBV.out HC0.out.2.1
        clear hat2 w0 w1 w2 w3 hgk2 hc hkc hkk
        have HHA:Hid (at_=offs G gp k):=HAt
        clear HAt
        go_wp2_with fail
        go_quiet (fail)
        go_wp2
        go_roundw
        case rel=>exact⟨k+1,at_+gk+gp,by omega,by go_num,by go_num,by omega,by push_cast;omega,HA2.out,by first|exact HBV.out|exact z0v HBV.out _⟩
        case measure=>simp[intOf];omega
       ·have hkt':¬(k:Int)<(m:Int):=by omega
        go_wp2
        go_roundw
        case rel=>exact⟨i+1,by omega,by go_num,HBU.out.trans (HBk.out.mono HBU.out.size)⟩
        case measure=>simp[intOf];omega
     ·obtain⟨kp,kc,hkv,hki⟩:=HN1.out.kid i hiL
      rw[hkv] at n14
      obtain⟨kd,hkd⟩:∃z:Int,((nth L i).kind:Int)=z:=⟨_,rfl⟩
      rw[hkd] at n0
      have hkl:=HTP.out.1.kids_le hiL
      have e4:decide (kd≤1)=false:=decide_eq_false (by omega)
      generalize (nth L i).kids=ks at n14 hki hkl
      obtain⟨m,hm⟩:∃z,ks.length=z:=⟨_,rfl⟩
      rw[hm] at n14 hki hkl
      clear hp0 hp1 hp2 hp3 hat hP hkd h4 h5 hbi n5 n15 hkv hki hm
      go_wp2
      go_loopw [15,16] (fun av kv wz=>kv=.int .i64 0∧wz=W1) (fun _ _ _=>0)
      case atStart=>exact⟨rfl,rfl⟩
      case round =>
       obtain⟨rfl,rfl⟩:=hrel
       by_cases hm0:(0:Int)<(m:Int)
       ·go_wp2
        go_roundw
        case rel=>exact⟨i+1,by omega,by go_num,HBU.out⟩
        case measure=>simp[intOf];omega
       ·go_wp2
        go_roundw
        case rel=>exact⟨i+1,by omega,by go_num,HBU.out⟩
        case measure=>simp[intOf];omega
   ·have hlt':¬(i:Int)<(N:Int):=by omega
    go_wp2
    go_ret
    exact⟨rfl,HB2.out.trans (HB.out.mono HB2.out.size)⟩
 ·rw[z47 hr] at RT
  have LD:Hid (∀u,Below W.heap.size W u->Calls Tryz.prog 8 #[.string s,.int .i64 w,.int .i64 h,.slice sp sn sc] u fun e U'=>∃a b,e=.returned (.tuple #[a,b,.bool false])∧Hid (Below W.heap.size W U')):=fun u hu=>zc6 hr sp sn sc idf off E W hG hA hE ht hsc hsn u hu
  clear hG hA hE ht hsc
  go_enter Tryz.func4,Tryz.ntmps4
  go_wp2_with (first|(go_at_call 7;refine RT.out.mono ?_;rintro e U1 ⟨rfl,HB1⟩)|(go_at_call 8;refine (LD.out _ HB1.out).mono ?_;rintro e U2 ⟨a,b,rfl,HB2⟩))
  go_loopw [13] (fun iv wr=>iv=.int .i64 0∧wr=U2) (fun _ _=>0)
  case atStart=>exact⟨rfl,rfl⟩
  case round =>
   obtain⟨rfl,rfl⟩:=hrel
   go_wp2
   go_ret
   exact⟨rfl,HB2.out⟩
end
end Go.Proofs.YtmmaicpblnjdcaaGreatDoor
