import Derived.Test.YtmmaicpblnjdcaaGreatDoorB50
import Derived.Test.YtmmaicpblnjdcaaGreatDoorB42
import Derived.BigQuiet
set_option linter.unusedVariables false
set_option maxRecDepth 100000
set_option maxHeartbeats 16000000
namespace Go.Proofs.YtmmaicpblnjdcaaGreatDoor
section
open Go.RowKit Go.Sort
def rmK(room gap:Int)(n:Nat):Int:=if n=0 then cl room else rm room gap n
theorem zt5(room gap:Int)(n:Nat)(hn:n≤200)(w:World) :
 Calls Tryz.prog 10 #[.int .i64 room,.int .i64 gap,.int .i64 n] w fun e w'=>e=.returned (.int .i64 (rmK room gap n))∧w'=w:=by
 unfold rmK
 by_cases h:n=0
 ·rw[if_pos h];exact zec room gap n (by omega) w
 ·rw[if_neg h];exact zn1 room gap n (by omega) hn w
theorem zjj(room gap:Int)(n:Nat):0≤rmK room gap n:=by
 unfold rmK
 split
 ·exact (z36 room).1
 ·exact zee room gap n
def grK(L:List Nd)(ks:List Nat):Nat->Bool
 | 0=>false
 | k+1=>grK L ks k || (decide (0<atN (nth L (kdn ks k)) 3)&&decide (atN (nth L (kdn ks k)) 2<0))
theorem zr2(L:List Nd)(ks:List Nat):∀k,grK L ks k=true->∃j,j<k∧0<atN (nth L (kdn ks j)) 3∧atN (nth L (kdn ks j)) 2<0
 | 0,h=>by cases h
 | k+1,h=>by
  simp only[grK,Bool.or_eq_true,Bool.and_eq_true,decide_eq_true_eq] at h
  rcases h with h|⟨h1,h2⟩
  ·obtain⟨j,hj,q⟩:=zr2 L ks k h
   exact⟨j,by omega,q⟩
  ·exact⟨k,by omega,h1,h2⟩
theorem zey(s:ByteArray)(w h:Int)(E:Nat->Addr)(W:World)(hG:Glo W E)(hA:z2w W E)(hE:ErT W)(ht:z0z W) :
 Calls Tryz.prog 5 #[.string s,.int .i64 w,.int .i64 h] W fun e W'=>e=.returned (.bool true)∧Below W.heap.size W W':=by
 have hmix:Tryz.prog.follows .mixedOrders=true:=by kernel_rfl
 have RT:Hid (Calls Tryz.prog 7 #[.string s,.int .i64 w,.int .i64 h] W fun e U'=>e=.returned (.bool (z4v s w h))∧Hid (Below W.heap.size W U')):=z7a s w h W
 by_cases hr:z2h s w h
 ·rw[z48 hr] at RT
  have LD:Hid (∀u,Below W.heap.size W u->Calls Tryz.prog 8 #[.string s,.int .i64 w,.int .i64 h,.slice none 0 0] u fun e U'=>∃ (L:List Nd) (g cap pb:Nat) (KV:Nat->Value) (P:Nat->Nat->Int),e=.returned (.tuple #[.slice (some ⟨g,0,none⟩) L.length cap,.slice (some ⟨pb,0,none⟩) L.length L.length,.bool true])∧Hid (NP U' g pb L KV P)∧Hid (Tree s L∧∃Wd H,PlTo L Wd H w h (fun _=>0) (fun _=>0) 0 P L.length)∧Hid (Below W.heap.size W U')):=fun u hu=>z8t hr none 0 0 _ _ E W hG hA hE ht zn8 (by omega) u hu
  clear hG hA hE ht
  go_enter Tryz.func5,Tryz.ntmps5
  go_wp2_with (first|(go_at_call 7;refine RT.out.mono ?_;rintro e U1 ⟨rfl,HB1⟩)|(go_at_call 8;refine (LD.out _ HB1.out).mono ?_;rintro e U2 ⟨L,g,cap,pb,KV,P,rfl,HNP,HTP,HB2⟩))
  obtain⟨N,hN⟩:∃z,L.length=z:=⟨_,rfl⟩
  have HN:Hid (L.length=N):=hN
  have hN100:N≤100:=by have:=HTP.out.1.vl.cnt;omega
  rw[hN]
  clear hN RT LD
  go_loopw [11] (fun iv wr=>∃i:Nat,i≤N∧iv=.int .i64 (i:Int)∧Hid (Below U2.heap.size U2 wr)) (fun iv _=>N - (intOf iv).toNat)
  case atStart=>exact⟨0,Nat.zero_le _,rfl,Below.refl _ _⟩
  case round =>
   obtain⟨i,hi,rfl,HB⟩:=hrel
   rename World=>W1
   by_cases hlt:i<N
   ·have hlt':(i:Int)<(N:Int):=by omega
    have hiL:i<L.length:=by have:=HN.out;omega
    have HNr:Hid (NP W1 g pb L KV P):=HNP.out.below HB.out
    obtain⟨n0,n1,n14,n15⟩:=HNr.out.node hiL
    have n5:=n1 4 (by omega)
    have y2:=HNr.out.pl i 2 hiL (by omega)
    obtain⟨Wd,H,hP⟩:=HTP.out.2
    clear n1 n15
    by_cases h4:(nth L i).kind=0
    ·rw[h4] at n0
     obtain⟨kp,kc,hkv,hki⟩:=HNr.out.kid i hiL
     rw[hkv] at n14
     have hkl:=HTP.out.1.kids_le hiL
     have HKL:Hid (∀j,j<(nth L i).kids.length->i<kdn (nth L i).kids j∧kdn (nth L i).kids j<L.length):=fun j hj=>z3a HTP.out.1 hiL hj
     have HKC:Hid ((nth L i).kids.length=0∨∃b o,kp=some ⟨b,o,none⟩∧∀t,t<(nth L i).kids.length->W1.cell? ⟨b,o+t,none⟩=some (.int .i64 (kdn (nth L i).kids t:Int))):=hki
     obtain⟨G,HG,HK,HS⟩:∃G,Hid (∀j,j<(nth L i).kids.length->0≤G j∧G j≤100000)∧Hid (∀j,j<(nth L i).kids.length->P (kdn (nth L i).kids j) 2=G j)∧Hid (sumL G (List.range (nth L i).kids.length)≤rmK (P i 2) (atN (nth L i) 4) (nth L i).kids.length∧(grK L (nth L i).kids (nth L i).kids.length=true->sumL G (List.range (nth L i).kids.length)=rmK (P i 2) (atN (nth L i) 4) (nth L i).kids.length)):=by
      by_cases hz:(nth L i).kids.length=0
      ·refine⟨fun _=>0,fun j hj=>by omega,fun j hj=>by omega,?_⟩
       rw[hz]
       exact⟨zjj _ _ _,fun q=>by cases q⟩
      ·obtain⟨G,g1,g2,g3,g4⟩:=hP.tiles HTP.out.1 hiL h4 (by omega)
       refine⟨G,g1,g2,?_⟩
       unfold rmK
       rw[if_neg hz]
       exact⟨g3,fun q=>g4 (zr2 L _ _ q)⟩
     have HSUM:Hid (∀k,k≤(nth L i).kids.length->0≤sumL G (List.range k)∧sumL G (List.range k)≤(k:Int)*100000):=fun k hk=>by
      induction k with
      | zero=>exact⟨Int.le_refl _,Int.le_refl _⟩
      | succ k ih =>
       have a1:=ih (by omega)
       have a2:=HG.out k (by omega)
       rw[List.range_succ,z32]
       omega
     have RM:Hid (∀u,Calls Tryz.prog 10 #[.int .i64 (P i 2),.int .i64 (atN (nth L i) 4),.int .i64 ((nth L i).kids.length:Int)] u fun e u'=>e=.returned (.int .i64 (rmK (P i 2) (atN (nth L i) 4) (nth L i).kids.length))∧u'=u):=fun u=>zt5 _ _ _ (by omega) u
     generalize rmK (P i 2) (atN (nth L i) 4) (nth L i).kids.length=r at RM HS
     generalize atN (nth L i) 4=gp at n5 RM
     generalize P i 2=p2 at y2 RM
     generalize (nth L i).kids=ks at n14 HKL HG HK HKC HS HSUM RM hkl
     obtain⟨m,hm⟩:∃z,ks.length=z:=⟨_,rfl⟩
     rw[hm] at n14 HKL HG HK HKC HS HSUM RM hkl
     have HC0:Hid (W1.cell? ⟨g,i*16+14,none⟩=some (.slice kp m kc)):=n14
     clear hP hkv hki hm h4
     have RM2:=RM
     have e0:((0:Int) != 0)=false:=rfl
     go_wp2_with fail
     go_quiet (first|(go_at_call 10;exact Calls.quiet_of_same (RM.out _)))
     go_wp2_with fail
     clear n0 n5 n14 y2
     go_loopw [13,14,15] (fun sv gv kv wz=>∃ (k:Nat) (sm:Int),k≤m∧kv=.int .i64 (k:Int)∧sv=.int .i64 sm∧gv=.bool (grK L ks k)∧0≤sm∧sm≤(k:Int)*100000∧Hid (sm=sumL G (List.range k))∧Hid (Below W1.heap.size W1 wz)) (fun _ _ kv _=>m - (intOf kv).toNat)
     case atStart=>exact⟨0,0,Nat.zero_le _,rfl,rfl,rfl,by omega,by omega,rfl,by first|exact Below.refl _ _|exact z0v (Below.refl _ _) _⟩
     case round =>
      obtain⟨k,sm,hk,rfl,rfl,rfl,hs0,hs1,HSM,HBk⟩:=hrel
      have n14:wr.cell? ⟨g,i*16+14,none⟩=some (.slice kp m kc):=z0k HBk.out HC0.out
      by_cases hkt:k<m
      ·have hkt':(k:Int)<(m:Int):=by omega
       obtain⟨kb,ko,rfl,hkc⟩:=HKC.out.resolve_left (by omega)
       have hkk:=HKL.out k hkt
       have hgk:=HG.out k hkt
       have w2:=HK.out k hkt
       have kk:=z0k HBk.out (hkc k hkt)
       have HGN:Hid (grK L ks (k+1)=(grK L ks k || (decide (0<atN (nth L (kdn ks k)) 3)&&decide (atN (nth L (kdn ks k)) 2<0)))):=rfl
       obtain⟨c,hc⟩:∃z,kdn ks k=z:=⟨_,rfl⟩
       rw[hc] at hkk w2 kk HGN
       obtain⟨gk,hgk2⟩:∃z,G k=z:=⟨_,rfl⟩
       rw[hgk2] at hgk w2
       have HNw:Hid (NP wr g pb L KV P):=HNr.out.below HBk.out
       have c2:wr.cell? ⟨pb,c*10+2,none⟩=some (.int .i64 gk):=by rw[<-w2];exact HNw.out.pl c 2 hkk.2 (by omega)
       have hnn:=(HNw.out.node hkk.2).2.1
       have c3:=hnn 2 (by omega)
       have c4:=hnn 3 (by omega)
       generalize atN (nth L c) 2=x2 at c3 HGN
       generalize atN (nth L c) 3=x3 at c4 HGN
       have hcN:(c:Int)<(N:Int):=by have:=HN.out;omega
       have hic:(i:Int)<(c:Int):=by omega
       have d4:decide ((c:Int)≤(i:Int))=false:=decide_eq_false (by omega)
       have d5:decide ((N:Int)≤(c:Int))=false:=decide_eq_false (by omega)
       obtain⟨hg0,hg1⟩:=hgk
       have hs2:sm≤20000000:=by omega
       have HS2:Hid (sm+gk=sumL G (List.range (k+1))):=by rw[List.range_succ,z32,<-HSM.out,hgk2];exact (rfl:sm+gk=sm+gk)
       obtain⟨bb,hbb⟩:∃z,grK L ks k=z:=⟨_,rfl⟩
       rw[hbb] at HGN ⊢
       clear w2 hgk2 hc hkc hkk hnn HSM hbb
       cases bb with
       | true =>
        have HGT:Hid (grK L ks (k+1)=true):=by rw[HGN.out];exact (rfl:true=true)
        clear HGN
        go_wp2
        go_roundw
        case rel=>exact⟨k+1,sm+gk,by omega,by go_num,rfl,by rw[HGT.out],by omega,by push_cast;omega,HS2.out,HBk.out⟩
        case measure=>simp[intOf];omega
       | false =>
        by_cases q1:0<x3
        ·have e1:decide (0<x3)=true:=decide_eq_true q1
         by_cases q2:x2<0
         ·have e2:decide (x2<0)=true:=decide_eq_true q2
          have HGT:Hid (grK L ks (k+1)=true):=by rw[HGN.out,e1,e2];exact (rfl:true=true)
          clear HGN
          go_wp2
          go_roundw
          case rel=>exact⟨k+1,sm+gk,by omega,by go_num,rfl,by rw[HGT.out],by omega,by push_cast;omega,HS2.out,HBk.out⟩
          case measure=>simp[intOf];omega
         ·have e2:decide (x2<0)=false:=decide_eq_false q2
          have HGT:Hid (grK L ks (k+1)=false):=by rw[HGN.out,e1,e2];exact (rfl:false=false)
          clear HGN
          go_wp2
          go_roundw
          case rel=>exact⟨k+1,sm+gk,by omega,by go_num,rfl,by rw[HGT.out],by omega,by push_cast;omega,HS2.out,HBk.out⟩
          case measure=>simp[intOf];omega
        ·have e1:decide (0<x3)=false:=decide_eq_false q1
         have HGT:Hid (grK L ks (k+1)=false):=by rw[HGN.out,e1];exact (rfl:false=false)
         clear HGN
         go_wp2
         go_roundw
         case rel=>exact⟨k+1,sm+gk,by omega,by go_num,rfl,by rw[HGT.out],by omega,by push_cast;omega,HS2.out,HBk.out⟩
         case measure=>simp[intOf];omega
      ·have hkt':¬(k:Int)<(m:Int):=by omega
       obtain rfl:k=m:=by omega
       obtain⟨t1,t2⟩:=HS.out
       rw[<-HSM.out] at t1 t2
       have d1:decide (r<sm)=false:=decide_eq_false (by omega)
       obtain⟨bb,hbb⟩:∃z,grK L ks k=z:=⟨_,rfl⟩
       rw[hbb] at t2 ⊢
       clear hbb
       cases bb with
       | true =>
        have e1:(sm != r)=false:=by rw[t2 rfl];simp
        clear t1 t2 HSM HS
        go_wp2
        go_roundw
        case rel=>exact⟨i+1,by omega,by go_num,HB.out.trans (HBk.out.mono HB.out.size)⟩
        case measure=>simp[intOf];omega
       | false =>
        clear t1 t2 HSM HS
        go_wp2
        go_roundw
        case rel=>exact⟨i+1,by omega,by go_num,HB.out.trans (HBk.out.mono HB.out.size)⟩
        case measure=>simp[intOf];omega
    ·obtain⟨kd,hkd⟩:∃z:Int,((nth L i).kind:Int)=z:=⟨_,rfl⟩
     rw[hkd] at n0
     have e4:(kd != 0)=true:=by simp;omega
     clear hP n14 n5 y2 hkd h4
     go_wp2
     go_roundw
     case rel=>exact⟨i+1,by omega,by go_num,HB.out⟩
     case measure=>simp[intOf];omega
   ·have hlt':¬(i:Int)<(N:Int):=by omega
    go_wp2
    go_ret
    exact⟨rfl,HB2.out.trans (HB.out.mono HB2.out.size)⟩
 ·rw[z47 hr] at RT
  have LD:Hid (∀u,Below W.heap.size W u->Calls Tryz.prog 8 #[.string s,.int .i64 w,.int .i64 h,.slice none 0 0] u fun e U'=>∃a b,e=.returned (.tuple #[a,b,.bool false])∧Hid (Below W.heap.size W U')):=fun u hu=>zc6 hr none 0 0 (fun _=>0) (fun _=>0) E W hG hA hE ht zn8 (by omega) u hu
  clear hG hA hE ht
  go_enter Tryz.func5,Tryz.ntmps5
  go_wp2_with (first|(go_at_call 7;refine RT.out.mono ?_;rintro e U1 ⟨rfl,HB1⟩)|(go_at_call 8;refine (LD.out _ HB1.out).mono ?_;rintro e U2 ⟨a,b,rfl,HB2⟩))
  go_loopw [11] (fun iv wr=>iv=.int .i64 0∧wr=U2) (fun _ _=>0)
  case atStart=>exact⟨rfl,rfl⟩
  case round =>
   obtain⟨rfl,rfl⟩:=hrel
   go_wp2
   go_ret
   exact⟨rfl,HB2.out⟩
end
end Go.Proofs.YtmmaicpblnjdcaaGreatDoor
