import Derived.Test.YtnponhbgicbkcaaGreatDoorD00
import Derived.RangeFuncNested
import Derived.RangeFuncBound
import Derived.RangeFuncCalls
import Derived.RangeFuncLeaves
import Derived.RangeFuncBox
import Derived.Shelf.Abstract
import Derived.Shelf.RegionOpen
import Derived.WalkKit
import Derived.OwnWalkIn
import Derived.TacticsInMore
import Derived.LoopNIn
import Derived.LoopIn
import Derived.Sort.CutIn
import Derived.Test.YtnponhbgicbkcaaGreatDoorD34
import Derived.Test.YtnponhbgicbkcaaGreatDoorD20
import Derived.Maps.AppendAt
set_option linter.unusedVariables false
set_option maxRecDepth 100000
set_option maxHeartbeats 16000000
namespace Go.Proofs.YtnponhbgicbkcaaGreatDoor
section
open Go.RowKit Go.Shelf
attribute[local go_sem] Oper.semAt_some
def KeepL(Bw:Nat)(W W':World):Prop:=(∀(k:Nat) (c:Array Value) (fz:Nat×Nat),W.heap[k]?=some (.cells c 239 fz)->W'.heap[k]?=some (.cells c 239 fz))∧W'.heap[Bw]?=W.heap[Bw]?
theorem KeepL.trans{Bw:Nat}{A B C:World}(h:KeepL Bw A B)(k:KeepL Bw B C):KeepL Bw A C:=⟨fun i c fz e=>k.1 i c fz (h.1 i c fz e),k.2.trans h.2⟩
theorem keepL_row{Bw:Nat}{W W':World}(h:KeepL Bw W W'){B n:Nat}{v:Value}{xs:List Value}(ho:W.ownsRow B 239 2 v n xs):W'.ownsRow B 239 2 v n xs:=by refine⟨ho.1,ho.2.imp id ?_⟩;rintro⟨g,cap,cur,e1,e2,e3,e4⟩;exact⟨g,cap,cur,e1,e2,h.1 g cur _ e3,e4⟩
theorem below_grown{W W':World}(h:Below W.heap.size W W'):W.grownBy W' none:=⟨h.os,h.tape,h.output,h.size,fun k hk _=>h.block k hk⟩
theorem own_clsC{w:World}{B:Nat}{v:Value}{l:List (List UInt8×Int)}(h:w.ownsRow B 239 2 v l.length (cCells l)):ClsC w v l:=(clsO_own h).clsC
theorem own_below3{w w':World}{B n:Nat}{e:TypeId}{v:Value}{xs:List Value}(h:w.ownsRow B e 2 v n xs)(hb:Below w.heap.size w w'):w'.ownsRow B e 2 v n xs:=by refine⟨h.1,h.2.imp id ?_⟩;rintro⟨g,cap,cur,e1,e2,e3,e4⟩;exact⟨g,cap,cur,e1,e2,(hb.block g (Array.getElem?_eq_some_iff.1 e3).1).trans e3,e4⟩
theorem clsC_sub{w:World}{b off cap a n:Nat}{l:List (List UInt8×Int)}(hn:a+n≤l.length)(hcap:l.length≤cap)(hmax:cap≤maxLen)(hb:b<w.heap.size)(hc:∀j (hj:j<l.length),w.cell? ⟨b,off+j*2,none⟩=some (.string ⟨(l[j]).1.toArray⟩)∧w.cell? ⟨b,off+j*2+1,none⟩=some (.int .i64 (l[j]).2)):
 ClsC w (.slice (if cap=a then some ⟨b,off,none⟩else some ⟨b,off+a*2,none⟩) n (cap-a)) ((l.drop a).take n):=by
 have hl:((l.drop a).take n).length=n:=by rw[List.length_take,List.length_drop];omega
 refine⟨_,_,by rw[hl],by rw[hl];omega,by omega,?_⟩;by_cases e:cap=a;·left;exact List.length_eq_zero_iff.1 (by rw[hl];omega)
 ·right;rw[if_neg e];refine⟨b,off+a*2,rfl,hb,fun j hj=>?_⟩;rw[hl]at hj;have:=hc (a+j) (by omega);rw[List.getElem_take,List.getElem_drop,show off+a*2+j*2=off+(a+j)*2 by omega];exact this
def lnV(x:Ln):Array Value:=#[.agg #[.string ⟨x.T.toArray⟩,.int .i64 x.W,.int .i64 x.F,.int .i64 x.N,.int .i64 x.E]]
theorem each1_in(n:Nat)(hn:3≤n)(k0 Bw Bs:Nat)(s:ByteArray)(w:Int)(l:List (List UInt8×Int))(hl:clus (runes s.data.toList)=l)(hs:s.size≤68719476736)(hw0:-9223372036854775808≤w)(hw1:w≤9223372036854775807)(J Jx:List Ln->World->Prop)(W:World)
    (hJ:AbidesFrom W.heap.size J)
    (hY:∀pre x W1,J pre W1->pre.length<l.length+1->YieldAt Fence.wide (n-1) Tryz.prog k0 (lnV x) W1 fun e W'=>
      (e=.returned (.bool true)∧J (pre++[x]) W'∧KeepL Bw W1 W')∨(e=.returned (.bool false)∧Jx (pre++[x]) W'))
    (ht:∀W',Below W.heap.size W W'->TabAt W')
    (hBw:W.heap[Bw]?=some (.cells #[.int .i64 w] 3 (0,0))) (hBs:W.heap[Bs]?=some (.cells #[.string s] 9 (0,0))) (h0:J [] W):
    CallsIn Fence.wide n Tryz.prog 184 #[.func (.yield k0) #[] #[],.pointer (some ⟨Bw,0,none⟩),.pointer (some ⟨Bs,0,none⟩)] W fun e W'=>(∃v,e=.returned v)∧
      ((∃ys,ys=linesOf l w∧J ys W')∨(∃pre,True∧Jx pre W')):=by
  have hsl:s.data.toList.length=s.size:=by rw[Array.length_toList];rfl
  have hR:=runes_length s.data.toList;have hC:=clus_length (runes s.data.toList);have hbd:=clus_wide (runes s.data.toList);have hsh:=clus_short (runes s.data.toList);rw[hsl]at hR;rw[hl]at hC hbd hsh;have cw:W.cell? ⟨Bw,0,none⟩=some (.int .i64 w):=by simp[World.cell?,hBw]
  have cs:W.cell? ⟨Bs,0,none⟩=some (.string s):=by simp[World.cell?,hBs]
  have HBw:=qH<|hBw;have HBD:=qH<|hbd;have HSH:=qH<|hsh;have HL:=qH<|hl;have HT:=qH<|ht;have HJ:=qH<|hJ;have HY:=qH<|hY;clear hBw hBs hbd hsh hl ht hJ hY hsl;refine callsIn_of_wp Tryz.func184 rfl trivial ?_ rfl;simp only[Tryz.ntmps184,List.size_toArray,List.length_cons,List.length_nil,Nat.reduceAdd,Nat.reduceSub,Array.replicate_succ,Array.replicate_zero,List.push_toArray,List.append_toArray,List.nil_append,List.cons_append];by_cases hlt:w<1
  · have HE:Hid (linesOf l w=[]):=by show _=_;rw[linesOf,if_pos hlt]
    gi_wp2;refine bodyPost_ret (results_none rfl _ _ _) rfl ?_;exact⟨⟨_,rfl⟩,.inl ⟨[],HE.out.symm,h0⟩⟩
  have HE:Hid (linesOf l w=linesA l w 0):=by show _=_;rw[linesOf,if_neg hlt]
  have hw1':1≤w:=by omega
  have G:Hid (Calls Tryz.prog 162 #[.string s] W fun e w'=>∃v,e=.returned v∧w'.ownsRow W.heap.size 239 2 v l.length (cCells l)∧Below W.heap.size W w'):=by have :=gClusters_any s W (HT.out W (Below.refl _ _)) (by omega);rw[HL.out]at this;exact this
  gi_wp2_with fail;refine⟨trivial,fun _=>by omega,(callsIn_wide.2 G.out).mono ?_⟩;rintro e w1 ⟨v1,rfl,o1,b1⟩;have HO1:=qH<|o1;have j1:=HJ.out [] W w1 none h0 (below_grown b1) (fun r e=>by cases e);have hBwl:=(Array.getElem?_eq_some_iff.1 HBw.out).1;have w1Bw:=qH<|(b1.block Bw hBwl).trans HBw.out;have hs1:=b1.size;obtain⟨a1,cap,rfl,hcap,hmax,hh1⟩:=own_clsC o1;clear G HBw cw cs o1 hh1;gi_wp2;gi_loopw[5] (fun p wr=>∃(a:Nat) (pre:List Ln),p=.int .i64 a∧a≤l.length∧Hid (pre++linesA l w a=linesA l w 0)∧Hid (wr.ownsRow W.heap.size 239 2 (.slice a1 l.length cap) l.length (cCells l))∧Hid (wr.heap[Bw]?=some (.cells #[.int .i64 w] 3 (0,0)))∧J pre wr) (fun p _=>l.length-(intOf p).toNat);case atStart=>exact⟨0,[],rfl,Nat.zero_le _,rfl,HO1.out,w1Bw.out,j1⟩
  case round=>
    obtain⟨a,pre,rfl,ha,hpre,hown,hbw,hJs⟩:=hrel;have cw:wr.cell? ⟨Bw,0,none⟩=some (.int .i64 w):=by have :=hbw.out;simp[World.cell?,this]
    have hBwr:=(Array.getElem?_eq_some_iff.1 hbw.out).1;clear j1 HO1 w1Bw b1;have hcs:(l=[]∧a1=none∧cap=0)∨∃b,a1=some ⟨b,0,none⟩:=by
      rcases hown.out.2 with⟨e1,e2⟩|⟨g,cp,cur,e1,_⟩;·injection e1 with e3 e4 e5;exact .inl ⟨List.length_eq_zero_iff.1 e2,e3,e5⟩
      ·injection e1 with e3 e4 e5;exact .inr ⟨g,e3⟩
    have hal:(a:Int)≤(l.length:Int):=by omega
    have hlc:(l.length:Int)≤(cap:Int):=by omega
    rcases hcs with⟨e1,rfl,rfl⟩|⟨b,rfl⟩
    · have hmx:Tryz.prog.follows .mixedOrders=true:=by kernel_rfl
      have hl0:l.length=0:=by rw[e1];rfl
      obtain rfl:a=0:=by omega
      have hLn:lnAt l w 0=⟨[],0,0,0,3⟩:=by
        rw[e1];have h1:¬w<0:=by omega
        simp[lnAt,firstL,fitN,joined,wideSum,h1]
      have HLN2:=qH<|hLn;have HF:Hid (linesOf l w=pre++[lnAt l w 0]):=by show _=_;rw[HE.out,<-hpre.out,linesA_end (Nat.zero_le _) (by rw[hLn])]
      have hpl:pre.length<l.length+1:=by have :=congrArg List.length hpre.out;have h2:=(linesA_length l w 0 (Nat.zero_le _)).1;rw[List.length_append]at this;omega
      have hcl0:∀w',ClsC w' (.slice none 0 0) []:=fun w'=>⟨none,0,rfl,Nat.le_refl _,Nat.zero_le _,.inl rfl⟩;have HFL:Hid (Calls Tryz.prog 185 #[.slice none 0 0,.int .i64 w] wr.drew fun e w'=>e=.returned (.tuple #[.int .i64 0,.int .i64 0,.int .i64 3])∧Below wr.heap.size wr w'):=by refine(firstLine_any [] _ w wr.drew (hcl0 _) (by simp) (by simp) hw1' hw1).mono ?_;rintro e w2 ⟨rfl,b2⟩;exact⟨by simp[firstL,fitN],((Below.refl wr.heap.size wr).drew).trans b2⟩
      have HLO:Hid (∀w',Calls Tryz.prog 186 #[.slice none 0 0,.int .i64 w] w' fun e w2=>e=.returned (.agg #[.string ⟨#[]⟩,.int .i64 0,.int .i64 0,.int .i64 0,.int .i64 0])∧Below w'.heap.size w' w2):=by
        intro w';refine(lineOf_any [] _ w w' (hcl0 w').cls (by simp) (by simp) (by simp[joined]) hw1' (fun h=>by simp[wideSum]at h;omega)).mono ?_;rintro e w2 ⟨rfl,b2⟩;refine⟨?_,b2⟩;have h1:¬w<0:=by omega
        simp[lineO,lineV,joined,wideSum,h1]
      rw[hl0];clear hLn hcl0;gi_wp2_with fail;gi_cut[6,7,8]from 14 (fun x y z wx=>x=.int .i64 0∧y=.int .i64 0∧z=.int .i64 3∧Below wr.heap.size wr wx);case first=>
        gi_region_with_o(refine⟨trivial,fun _=>by omega,(callsIn_wide.2 HFL.out).mono ?_⟩;rintro e wq ⟨rfl,bq⟩);all_goals(gi_wp2_with fail)
        all_goals(gi_meet)
        all_goals(exact⟨rfl,rfl,rfl,bq⟩)
      case rest=>
        obtain⟨rfl,rfl,rfl,bx⟩:=hcut;have hsx:=bx.size;have cwx:=(bx.cell (p:=⟨Bw,0,none⟩) hBwr).trans cw;have hBwc:Bw<wc.heap.size:=by omega
        have hBwn:¬Bw=wc.heap.size:=by omega
        clear cw HFL;gi_wp2_with fail;gi_cut[9]from 14 (fun p wx=>∃B,p=.pointer (some ⟨B,0,none⟩)∧wr.heap.size≤B∧wx.heap[B]?=some (.cells #[.string ⟨#[]⟩,.int .i64 0,.int .i64 0,.int .i64 0,.int .i64 0] 267 (0,0))∧Below wr.heap.size wr wx);case first=>
          have HLG:Hid (∀w',(w'=wc.drew∨w'=(wc.alloc (.cells #[.string ⟨#[]⟩,.int .i64 0,.int .i64 0,.int .i64 0,.int .i64 0] 267)).drew)->Calls Tryz.prog 186 #[.slice none 0 0,.int .i64 w] w' fun e w2=>e=.returned (.agg #[.string ⟨#[]⟩,.int .i64 0,.int .i64 0,.int .i64 0,.int .i64 0])∧Below wr.heap.size wr w2∧
              (w'=(wc.alloc (.cells #[.string ⟨#[]⟩,.int .i64 0,.int .i64 0,.int .i64 0,.int .i64 0] 267)).drew->wc.heap.size<w2.heap.size∧w2.heap[wc.heap.size]?=some (.cells #[.string ⟨#[]⟩,.int .i64 0,.int .i64 0,.int .i64 0,.int .i64 0] 267 (0,0)))):=by
            intro w' hw';have hbw':Below wr.heap.size wr w':=by
              rcases hw' with rfl|rfl;·exact bx.drew
              ·exact(bx.alloc hsx _).drew
            refine(HLO.out w').mono ?_;rintro e w2 ⟨rfl,b2⟩;refine⟨rfl,hbw'.trans (b2.mono hbw'.size),?_⟩;rintro rfl;have hlt3:wc.heap.size<(wc.alloc (.cells #[.string ⟨#[]⟩,.int .i64 0,.int .i64 0,.int .i64 0,.int .i64 0] 267)).drew.heap.size:=by show wc.heap.size<(wc.alloc _).heap.size;rw[World.size_alloc];omega
            exact⟨Nat.lt_of_lt_of_le hlt3 b2.size,(b2.block _ hlt3).trans (heap_alloc_new wc _)⟩
          have HLA:Hid (Calls Tryz.prog 186 #[.slice none 0 0,.int .i64 w] wc.drew fun e w2=>e=.returned (.agg #[.string ⟨#[]⟩,.int .i64 0,.int .i64 0,.int .i64 0,.int .i64 0])∧Below wr.heap.size wr w2):=by refine(HLG.out _ (Or.inl rfl)).mono ?_;rintro e w2 ⟨h1,h2,_⟩;exact⟨h1,h2⟩
          have HLB:Hid (Calls Tryz.prog 186 #[.slice none 0 0,.int .i64 w] (wc.alloc (.cells #[.string ⟨#[]⟩,.int .i64 0,.int .i64 0,.int .i64 0,.int .i64 0] 267)).drew fun e w2=>e=.returned (.agg #[.string ⟨#[]⟩,.int .i64 0,.int .i64 0,.int .i64 0,.int .i64 0])∧Below wr.heap.size wr w2∧wc.heap.size<w2.heap.size∧w2.heap[wc.heap.size]?=some (.cells #[.string ⟨#[]⟩,.int .i64 0,.int .i64 0,.int .i64 0,.int .i64 0] 267 (0,0))):=by refine(HLG.out _ (Or.inr rfl)).mono ?_;rintro e w2 ⟨h1,h2,h3⟩;exact⟨h1,h2,(h3 rfl).1,(h3 rfl).2⟩
          clear HLO HLG;gi_region_with_o(refine⟨trivial,fun _=>by omega,?_⟩;(first|(refine(callsIn_wide.2 HLA.out).mono ?_;rintro e wq ⟨rfl,bq⟩)|(refine(callsIn_wide.2 HLB.out).mono ?_;rintro e wq ⟨rfl,bq,hzl,hzr⟩;have q0:wq.cell? ⟨wc.heap.size,0,none⟩=some (.string ⟨#[]⟩):=(by simp[World.cell?,hzr]);have q1:wq.cell? ⟨wc.heap.size,1,none⟩=some (.int .i64 0):=(by simp[World.cell?,hzr]);have q2:wq.cell? ⟨wc.heap.size,2,none⟩=some (.int .i64 0):=(by simp[World.cell?,hzr]);have q3:wq.cell? ⟨wc.heap.size,3,none⟩=some (.int .i64 0):=(by simp[World.cell?,hzr]);have q4:wq.cell? ⟨wc.heap.size,4,none⟩=some (.int .i64 0):=(by simp[World.cell?,hzr]);have fr:∀j,wq.frozen? ⟨wc.heap.size,j,none⟩=false:=(fun j=>frozen_of_row _ _ _ _ _ hzr);have HZR:=qH<|hzr;clear hzr)));all_goals(gi_wp2_with fail)
          all_goals(gi_meet)
          all_goals(first
            |exact⟨_,rfl,bq.size,heap_alloc_new _ _,bq.alloc bq.size _⟩
            |exact⟨_,rfl,hsx,row5 HZR.out,((((bq.setCell (p:=⟨wc.heap.size,0,none⟩) hsx _).setCell (p:=⟨wc.heap.size,1,none⟩) hsx _).setCell (p:=⟨wc.heap.size,2,none⟩) hsx _).setCell (p:=⟨wc.heap.size,3,none⟩) hsx _).setCell (p:=⟨wc.heap.size,4,none⟩) hsx _⟩)
        case rest=>
          obtain⟨B,rfl,hB,hrow,by2⟩:=hcut;have hsy:=by2.size;have q0:wc.cell? ⟨B,0,none⟩=some (.string ⟨#[]⟩):=by simp[World.cell?,hrow]
          have q1:wc.cell? ⟨B,1,none⟩=some (.int .i64 0):=by simp[World.cell?,hrow]
          have q2:wc.cell? ⟨B,2,none⟩=some (.int .i64 0):=by simp[World.cell?,hrow]
          have q3:wc.cell? ⟨B,3,none⟩=some (.int .i64 0):=by simp[World.cell?,hrow]
          have q4:wc.cell? ⟨B,4,none⟩=some (.int .i64 0):=by simp[World.cell?,hrow]
          have fr:∀j,wc.frozen? ⟨B,j,none⟩=false:=fun j=>frozen_of_row _ _ _ _ _ hrow;have bz:Below wr.heap.size wr ((wc.setCell ⟨B,2,none⟩ (.int .i64 0)).setCell ⟨B,4,none⟩ (.int .i64 3)):=(by2.setCell (p:=⟨B,2,none⟩) hB _).setCell (p:=⟨B,4,none⟩) hB _;have jz:=HJ.out pre wr _ none hJs (below_grown bz) (fun r e=>by cases e);obtain⟨fn,tmps,assign,body,hy,hR⟩:=HY.out pre (lnAt l w 0) _ jz hpl;rw[HLN2.out]at hy;change(Instr.yield k0 #[.agg #[.string ⟨#[]⟩,.int .i64 0,.int .i64 0,.int .i64 0,.int .i64 3]]).run Tryz.prog _=_ at hy;have HR:=qH<|hR;clear hrow cwx hR jz;gi_wp2;refine⟨fun _=>by omega,HR.out.mono ?_⟩;clear HR hy;rintro e W3 (⟨rfl,hJ3,hk3⟩|⟨rfl,hJx3⟩);·gi_wp2;refine bodyPost_ret (results_none rfl _ _ _) rfl ?_;exact⟨⟨_,rfl⟩,.inl ⟨_,HF.out.symm,hJ3⟩⟩
          ·gi_wp2;refine bodyPost_ret (results_none rfl _ _ _) rfl ?_;exact⟨⟨_,rfl⟩,.inr ⟨_,trivial,hJx3⟩⟩
    · have hmx:Tryz.prog.follows .mixedOrders=true:=by kernel_rfl
      have hle:=firstL_le (l.drop a) w;rw[List.length_drop]at hle;have HX:Hid (linesA l w a=if(lnAt l w a).E=3 then[lnAt l w a]else lnAt l w a::linesA l w (nxt l w a)):=by
        show _=_;by_cases h:(lnAt l w a).E=3;·rw[if_pos h,linesA_end ha h]
        ·rw[if_neg h,linesA_step ha h]
      have HNL:=qH<|nxt_lt l w a;have HNX:Hid (nxt l w a=a+(firstL (l.drop a) w).n+(firstL (l.drop a) w).d):=rfl;have hlA:=(linesA_length l w a ha).1;have hlA0:=(linesA_length l w 0 (Nat.zero_le _)).2;have hcl:∀w',Below wr.heap.size wr w'->∀n,a+n≤l.length->ClsC w' (.slice (if cap=a then some ⟨b,0,none⟩else some ⟨b,a*2,none⟩) n (cap-a)) ((l.drop a).take n):=by
        intro w' hb n hn;obtain⟨a',cap',e1,_,_,hh⟩:=(own_clsC hown.out).below hb;cases e1;rcases hh with hh|⟨b',off',e2,hb',hc'⟩
        · subst hh;have e0:n=0:=by simp at hn;omega
          subst e0;exact⟨_,_,rfl,by simp,by omega,.inl (by simp)⟩
        ·cases e2;have :=clsC_sub (a:=a) (n:=n) hn hcap hmax hb' hc';simpa using this
      have HCL:=qH<|hcl;have hFL:Calls Tryz.prog 185 #[.slice (if cap=a then some ⟨b,0,none⟩else some ⟨b,a*2,none⟩) (l.length-a) (cap-a),.int .i64 w] wr.drew fun e w'=>e=.returned (.tuple #[.int .i64 (firstL (l.drop a) w).n,.int .i64 (firstL (l.drop a) w).d,.int .i64 (firstL (l.drop a) w).e])∧Below wr.heap.size wr w':=by have h1:=hcl wr.drew ((Below.refl _ _).drew) (l.length-a) (by omega);rw[List.take_of_length_le (by rw[List.length_drop];omega)]at h1;refine(firstLine_any (l.drop a) _ w wr.drew h1 (fun c hc=>HBD.out c (List.mem_of_mem_drop hc)) (by rw[List.length_drop];omega) hw1' hw1).mono ?_;rintro e w2 ⟨rfl,b2⟩;exact⟨rfl,((Below.refl wr.heap.size wr).drew).trans b2⟩
      have HLO:Hid (∀w' v,Cls w' v ((l.drop a).take (firstL (l.drop a) w).n)->Calls Tryz.prog 186 #[v,.int .i64 w] w' fun e w2=>e=.returned (lineO ((l.drop a).take (firstL (l.drop a) w).n) w)∧Below w'.heap.size w' w2):=by
        intro w' v hv;have hb2:∀c∈(l.drop a).take (firstL (l.drop a) w).n,0≤c.2∧c.2≤2:=fun c hc=>HBD.out c (List.mem_of_mem_drop (List.mem_of_mem_take hc));have hl2:((l.drop a).take (firstL (l.drop a) w).n).length≤l.length:=by rw[List.length_take,List.length_drop];omega
        have hj2:=joined_bd _ (fun c hc=>HSH.out c (List.mem_of_mem_drop (List.mem_of_mem_take hc)):∀c∈(l.drop a).take (firstL (l.drop a) w).n,c.1.length≤20);have hs2:=(wideSum_bd _ hb2 ((l.drop a).take (firstL (l.drop a) w).n).length).2;rw[List.take_length]at hs2;exact lineOf_any _ v w w' hv hb2 (by omega) (by omega) hw1' (fun _=>by omega)
      have HLN:Hid (∃(T:List UInt8) (V:Int) (N:Nat),lineO ((l.drop a).take (firstL (l.drop a) w).n) w=.agg #[.string ⟨T.toArray⟩,.int .i64 V,.int .i64 0,.int .i64 N,.int .i64 0]∧lnAt l w a=⟨T,V,a,N,(firstL (l.drop a) w).e⟩):=by
        by_cases hwd:w<wideSum ((l.drop a).take (firstL (l.drop a) w).n);·exact⟨List.replicate w.toNat 32,w,1,by rw[lineO,if_pos hwd];rfl,by simp only[lnAt];rw[if_pos hwd]⟩
        ·exact⟨joined ((l.drop a).take (firstL (l.drop a) w).n),wideSum ((l.drop a).take (firstL (l.drop a) w).n),((l.drop a).take (firstL (l.drop a) w).n).length,by rw[lineO,if_neg hwd];rfl,by simp only[lnAt];rw[if_neg hwd]⟩
      obtain⟨n1,hn1⟩:∃n1,(firstL (l.drop a) w).n=n1:=⟨_,rfl⟩;obtain⟨d1,hd1⟩:∃d1,(firstL (l.drop a) w).d=d1:=⟨_,rfl⟩;obtain⟨e1,he1⟩:∃e1,(firstL (l.drop a) w).e=e1:=⟨_,rfl⟩;rw[hn1,hd1,he1]at hFL;rw[hn1]at HLO;rw[hn1,he1]at HLN;rw[hn1,hd1]at HNX hle;have HFL:=qH<|hFL;obtain⟨pp,hpp⟩:∃pp,(if cap=a then some (⟨b,0,none⟩:Addr)else some ⟨b,a*2,none⟩)=pp:=⟨_,rfl⟩;rw[hpp]at HFL HCL;clear hFL hcl hn1 hd1 he1;gi_wp2_with fail;gi_cut[6,7,8]from 14 (fun x y z wx=>x=.int .i64 n1∧y=.int .i64 d1∧z=.int .i64 e1∧Below wr.heap.size wr wx);case first=>
        gi_region_with_o(refine⟨trivial,fun _=>by omega,(callsIn_wide.2 HFL.out).mono ?_⟩;rintro e wq ⟨rfl,bq⟩);all_goals(gi_wp2_with fail)
        all_goals(gi_meet)
        all_goals(exact⟨rfl,rfl,rfl,bq⟩)
      case rest=>
        obtain⟨rfl,rfl,rfl,bx⟩:=hcut;have hsx:=bx.size;have cwx:=(bx.cell (p:=⟨Bw,0,none⟩) hBwr).trans cw;have hBwc:Bw<wc.heap.size:=by omega
        have hBwn:¬Bw=wc.heap.size:=by omega
        clear cw HFL;obtain⟨T,V,N,hlo,hln⟩:=HLN.out;rw[hlo]at HLO;have HLN2:=qH<|hln;have hwr:IntKind.i64.wrap ((a:Int)+(n1:Int))=(a:Int)+(n1:Int):=by exact IntWalk.i64_in _ ⟨by omega,by omega⟩
        have hq1:(0:Int)≤(a:Int)+(n1:Int):=by omega
        have hq2:(a:Int)+(n1:Int)≤(cap:Int):=by omega
        have hq3:((a:Int)+(n1:Int)).toNat=a+n1:=by omega
        clear HLN hlo hln;gi_wp2_with fail;gi_cut[9]from 14 (fun p wx=>∃B,p=.pointer (some ⟨B,0,none⟩)∧wr.heap.size≤B∧wx.heap[B]?=some (.cells #[.string ⟨T.toArray⟩,.int .i64 V,.int .i64 0,.int .i64 N,.int .i64 0] 267 (0,0))∧Below wr.heap.size wr wx);case first=>
          have HLG:Hid (∀w',(w'=wc.drew∨w'=(wc.alloc (.cells #[.string ⟨#[]⟩,.int .i64 0,.int .i64 0,.int .i64 0,.int .i64 0] 267)).drew)->Calls Tryz.prog 186 #[.slice pp n1 (cap-a),.int .i64 w] w' fun e w2=>e=.returned (.agg #[.string ⟨T.toArray⟩,.int .i64 V,.int .i64 0,.int .i64 N,.int .i64 0])∧Below wr.heap.size wr w2∧
              (w'=(wc.alloc (.cells #[.string ⟨#[]⟩,.int .i64 0,.int .i64 0,.int .i64 0,.int .i64 0] 267)).drew->wc.heap.size<w2.heap.size∧w2.heap[wc.heap.size]?=some (.cells #[.string ⟨#[]⟩,.int .i64 0,.int .i64 0,.int .i64 0,.int .i64 0] 267 (0,0)))):=by
            intro w' hw';have hbw':Below wr.heap.size wr w':=by
              rcases hw' with rfl|rfl;·exact bx.drew
              ·exact(bx.alloc hsx _).drew
            refine(HLO.out w' _ (HCL.out w' hbw' n1 (by omega)).cls).mono ?_;rintro e w2 ⟨rfl,b2⟩;refine⟨rfl,hbw'.trans (b2.mono hbw'.size),?_⟩;rintro rfl;have hlt3:wc.heap.size<(wc.alloc (.cells #[.string ⟨#[]⟩,.int .i64 0,.int .i64 0,.int .i64 0,.int .i64 0] 267)).drew.heap.size:=by show wc.heap.size<(wc.alloc _).heap.size;rw[World.size_alloc];omega
            exact⟨Nat.lt_of_lt_of_le hlt3 b2.size,(b2.block _ hlt3).trans (heap_alloc_new wc _)⟩
          have HLA:Hid (Calls Tryz.prog 186 #[.slice pp n1 (cap-a),.int .i64 w] wc.drew fun e w2=>e=.returned (.agg #[.string ⟨T.toArray⟩,.int .i64 V,.int .i64 0,.int .i64 N,.int .i64 0])∧Below wr.heap.size wr w2):=by refine(HLG.out _ (Or.inl rfl)).mono ?_;rintro e w2 ⟨h1,h2,_⟩;exact⟨h1,h2⟩
          have HLB:Hid (Calls Tryz.prog 186 #[.slice pp n1 (cap-a),.int .i64 w] (wc.alloc (.cells #[.string ⟨#[]⟩,.int .i64 0,.int .i64 0,.int .i64 0,.int .i64 0] 267)).drew fun e w2=>e=.returned (.agg #[.string ⟨T.toArray⟩,.int .i64 V,.int .i64 0,.int .i64 N,.int .i64 0])∧Below wr.heap.size wr w2∧wc.heap.size<w2.heap.size∧w2.heap[wc.heap.size]?=some (.cells #[.string ⟨#[]⟩,.int .i64 0,.int .i64 0,.int .i64 0,.int .i64 0] 267 (0,0))):=by refine(HLG.out _ (Or.inr rfl)).mono ?_;rintro e w2 ⟨h1,h2,h3⟩;exact⟨h1,h2,(h3 rfl).1,(h3 rfl).2⟩
          clear HLO HCL HLG;gi_region_with_o(refine⟨trivial,fun _=>by omega,?_⟩;(first|(refine(callsIn_wide.2 HLA.out).mono ?_;rintro e wq ⟨rfl,bq⟩)|(refine(callsIn_wide.2 HLB.out).mono ?_;rintro e wq ⟨rfl,bq,hzl,hzr⟩;have q0:wq.cell? ⟨wc.heap.size,0,none⟩=some (.string ⟨#[]⟩):=(by simp[World.cell?,hzr]);have q1:wq.cell? ⟨wc.heap.size,1,none⟩=some (.int .i64 0):=(by simp[World.cell?,hzr]);have q2:wq.cell? ⟨wc.heap.size,2,none⟩=some (.int .i64 0):=(by simp[World.cell?,hzr]);have q3:wq.cell? ⟨wc.heap.size,3,none⟩=some (.int .i64 0):=(by simp[World.cell?,hzr]);have q4:wq.cell? ⟨wc.heap.size,4,none⟩=some (.int .i64 0):=(by simp[World.cell?,hzr]);have fr:∀j,wq.frozen? ⟨wc.heap.size,j,none⟩=false:=(fun j=>frozen_of_row _ _ _ _ _ hzr);have HZR:=qH<|hzr;clear hzr)));all_goals(gi_wp2_with fail)
          all_goals(gi_meet)
          all_goals(first
            |exact⟨_,rfl,bq.size,heap_alloc_new _ _,bq.alloc bq.size _⟩
            |exact⟨_,rfl,hsx,row5 HZR.out,((((bq.setCell (p:=⟨wc.heap.size,0,none⟩) hsx _).setCell (p:=⟨wc.heap.size,1,none⟩) hsx _).setCell (p:=⟨wc.heap.size,2,none⟩) hsx _).setCell (p:=⟨wc.heap.size,3,none⟩) hsx _).setCell (p:=⟨wc.heap.size,4,none⟩) hsx _⟩)
        case rest=>
          obtain⟨B,rfl,hB,hrow,by2⟩:=hcut;have hsy:=by2.size;have q0:wc.cell? ⟨B,0,none⟩=some (.string ⟨T.toArray⟩):=by simp[World.cell?,hrow]
          have q1:wc.cell? ⟨B,1,none⟩=some (.int .i64 V):=by simp[World.cell?,hrow]
          have q2:wc.cell? ⟨B,2,none⟩=some (.int .i64 0):=by simp[World.cell?,hrow]
          have q3:wc.cell? ⟨B,3,none⟩=some (.int .i64 N):=by simp[World.cell?,hrow]
          have q4:wc.cell? ⟨B,4,none⟩=some (.int .i64 0):=by simp[World.cell?,hrow]
          have fr:∀j,wc.frozen? ⟨B,j,none⟩=false:=fun j=>frozen_of_row _ _ _ _ _ hrow;have bz:Below wr.heap.size wr ((wc.setCell ⟨B,2,none⟩ (.int .i64 a)).setCell ⟨B,4,none⟩ (.int .i64 e1)):=(by2.setCell (p:=⟨B,2,none⟩) hB _).setCell (p:=⟨B,4,none⟩) hB _;have jz:=HJ.out pre wr _ none hJs (below_grown bz) (fun r e=>by cases e);have hpl:pre.length<l.length+1:=by have :=congrArg List.length hpre.out;rw[List.length_append]at this;omega
          obtain⟨fn,tmps,assign,body,hy,hR⟩:=HY.out pre (lnAt l w a) _ jz hpl;rw[HLN2.out]at hy;dsimp only[lnV]at hy;have HR:=qH<|hR;clear hrow cwx hR jz;gi_wp2;refine⟨fun _=>by omega,HR.out.mono ?_⟩;clear HR hy;rintro e W3 (⟨rfl,hJ3,hk3⟩|⟨rfl,hJx3⟩)
          · have hown3:=qH<|keepL_row hk3 (own_below3 hown.out bz);have hbw3:=qH<|(hk3.2.trans (bz.block Bw hBwr)).trans hbw.out;have hE:(lnAt l w a).E=e1:=by rw[HLN2.out]
            by_cases h3:e1=3
            · have HF:Hid (linesOf l w=pre++[lnAt l w a]):=by show _=_;rw[HE.out,<-hpre.out,HX.out,if_pos (by rw[hE,h3])]
              clear hE;subst h3;gi_wp2;refine bodyPost_ret (results_none rfl _ _ _) rfl ?_;exact⟨⟨_,rfl⟩,.inl ⟨_,HF.out.symm,hJ3⟩⟩
            · have hne3:(lnAt l w a).E≠3:=by rw[hE];exact h3
              have hnl:=HNL.out hne3;have HF:Hid ((pre++[lnAt l w a])++linesA l w (nxt l w a)=linesA l w 0):=by show _=_;rw[<-hpre.out,HX.out,if_neg hne3];simp
              have hnx':=HNX.out;have HNX':=qH<|hnx';rw[HNX'.out]at HF hnl;clear hE hne3 hnx';gi_wp2;go_roundw;case rel=>exact⟨a+n1+d1,pre++[lnAt l w a],by go_num,by omega,HF,hown3,hbw3,hJ3⟩
              case measure=>simp[intOf];omega
          ·gi_wp2;refine bodyPost_ret (results_none rfl _ _ _) rfl ?_;exact⟨⟨_,rfl⟩,.inr ⟨_,trivial,hJx3⟩⟩
end
section
open Go.RowKit Go.Shelf
attribute[local go_sem] Oper.semAt_some
theorem keepL_put{Bw B:Nat}(hB:Bw<B)(W:World)(l:Nat)(o o':Obj)(hl:B≤l)(h:W.heap[l]?=some o)(hc:o.isCells=false)(_:o.isWalk=false):KeepL Bw W (W.putObj l o'):=by have hg:=grownBy_putObj' W l o';have hls:=(Array.getElem?_eq_some_iff.1 h).1;refine⟨fun k c fz e=>?_,hg.block Bw (by omega) (fun e=>by cases e;omega)⟩;refine(hg.block k (Array.getElem?_eq_some_iff.1 e).1 (fun e'=>?_)).trans e;cases e';rw[h]at e;cases e;cases hc
theorem each_stops(n:Nat)(hn:3≤n)(Bw Bs:Nat)(s:ByteArray)(w:Int)(l:List (List UInt8×Int))(hl:clus (runes s.data.toList)=l)(hs:s.size≤68719476736)(hw0:-9223372036854775808≤w)(hw1:w≤9223372036854775807)(W0:World)(ht:TabAt W0)
 (hBw:W0.heap[Bw]?=some (.cells #[.int .i64 w] 3 (0,0))) (hBs:W0.heap[Bs]?=some (.cells #[.string s] 9 (0,0))):
 SeqStopsK Fence.wide n Tryz.prog 184 #[.pointer (some ⟨Bw,0,none⟩),.pointer (some ⟨Bs,0,none⟩)] lnV (KeepL Bw) (fun ys=>ys=linesOf l w) (fun _=>True) (l.length+1) W0:=fun k0 J Jx W hW hJ _ hY h0=>
 each1_in n hn k0 Bw Bs s w l hl hs hw0 hw1 J Jx W hJ hY (fun W' hW'=>(ht.below hW).below hW')
  ((hW.block Bw (Array.getElem?_eq_some_iff.1 hBw).1).trans hBw) ((hW.block Bs (Array.getElem?_eq_some_iff.1 hBs).1).trans hBs) h0
theorem each_any(s:ByteArray)(w:Int)(W:World):
 Calls Tryz.prog 163 #[.string s,.int .i64 w] W fun e w'=>e=.returned (.func (.func 184) #[] #[.pointer (some ⟨W.heap.size+1,0,none⟩),.pointer (some ⟨W.heap.size,0,none⟩)])∧w'=(W.alloc (.cells #[.string s] 9)).alloc (.cells #[.int .i64 w] 3):=by go_enter Tryz.func163,Tryz.ntmps163;go_wp2;go_ret;exact⟨rfl,rfl⟩
theorem keep_set{W:World}{B Bw:Nat}{v v' x:Value}(hne:Bw≠B)(hv:Boxed W B 3 v)(hw:Boxed W Bw 3 x):KeepL Bw W (W.setCell ⟨B,0,none⟩ v')∧Boxed (W.setCell ⟨B,0,none⟩ v') Bw 3 x:=by
 have hb:=Boxed.other hw hne v';refine⟨⟨fun j c fz e=>?_,hb.trans hw.symm⟩,hb⟩;have hjB:j≠B:=by rintro rfl;rw[show W.heap[j]?=_ from hv]at e;cases e
 rw[heap_setCell_other _ _ _ _ hjB];exact e
theorem count_any(s:ByteArray)(w:Int)(W:World)(ht:TabAt W)(hs:s.size≤68719476736)(hw0:-9223372036854775808≤w)(hw1:w≤9223372036854775807):
 Calls Tryz.prog 138 #[.string s,.int .i64 w] W fun e W'=>e=.returned (.int .i64 (linesOf (clus (runes s.data.toList)) w).length)∧Below W.heap.size W W':=by
 have hsl:s.data.toList.length=s.size:=by rw[Array.length_toList];rfl
 have hR:=runes_length s.data.toList;have hC:=clus_length (runes s.data.toList);rw[hsl]at hR;obtain⟨l,hl⟩:∃l,clus (runes s.data.toList)=l:=⟨_,rfl⟩;rw[hl]at hC⊢;refine(callsIn_wide (n:=6)).1 ?_;refine callsIn_of_wp_marks Tryz.func138 rfl trivial ?_ rfl;simp only[Tryz.ntmps138,List.size_toArray,List.length_cons,List.length_nil,Nat.reduceAdd,Nat.reduceSub,Array.replicate_succ,Array.replicate_zero,List.push_toArray,List.append_toArray,List.nil_append,List.cons_append];gi_wp2_with fail;refine⟨trivial,(callsIn_wide.2 (each_any s w _)).mono ?_⟩;rintro e w' ⟨rfl,rfl⟩;have bO:=Boxed.new W 3 (.int .i64 0);obtain⟨W0,hW0⟩:∃W0,((W.alloc (.cells #[.int .i64 0] 3)).alloc (.cells #[.string s] 9)).alloc (.cells #[.int .i64 w] 3)=W0:=⟨_,rfl⟩;have bO0:Boxed W0 W.heap.size 3 (.int .i64 0):=by rw[<-hW0];exact(bO.alloc _).alloc _
 have bS0:Boxed W0 (W.heap.size+1) 9 (.string s):=by rw[<-hW0];have:=Boxed.new (W.alloc (.cells #[.int .i64 0] 3)) 9 (.string s);rw[World.size_alloc]at this;exact this.alloc _
 have bW0:Boxed W0 (W.heap.size+2) 3 (.int .i64 w):=by rw[<-hW0];have:=Boxed.new ((W.alloc (.cells #[.int .i64 0] 3)).alloc (.cells #[.string s] 9)) 3 (.int .i64 w);rw[World.size_alloc,World.size_alloc]at this;exact this
 have hB0:Below W.heap.size W W0:=by rw[<-hW0];exact(((Below.refl _ W).alloc (Nat.le_refl _) _).alloc (by simp) _).alloc (by simp;omega) _
 have hsz:W0.heap.size=W.heap.size+3:=by rw[<-hW0];simp
 have ht0:=ht.below hB0;rw[World.size_alloc,hW0];gi_wp2;refine wpIn_rangeFunc_ownG rfl (by omega) (gf:=184) (lb:=#[.pointer (some ⟨W.heap.size+2,0,none⟩),.pointer (some ⟨W.heap.size+1,0,none⟩)]) rfl trivial (enters_of Tryz.func184 (by kernel_rfl) rfl)
  (each_stops 5 (by omega) (W.heap.size+2) (W.heap.size+1) s w l hl hs hw0 hw1 W0 ht0 bW0 bS0) KeepL.trans (keepL_put (by omega)) (Below.refl _ _) (fun _=>rfl)
  (fun pre W'=>(Boxed W' W.heap.size 3 (.int .i64 pre.length)∧Boxed W' (W.heap.size+2) 3 (.int .i64 w))∧Below W.heap.size W W')
  (fun _ _ _=>False)
  (OwnFrom.and (OwnFrom.and (Own.from (boxed_own W.heap.size 3 (fun pre:List Ln=>Value.int .i64 (pre.length:Int))) _) (Own.from (boxed_own _ _ _) _)) (ownFrom_below (Nat.le_refl _) (by omega)))
  (fun _ _ _ _ _ hs _ _=>hs)
  ⟨⟨bO0,bW0⟩,hB0⟩
  (fun x=>{tmps:=#[.string s,.int .i64 w,undef,undef,.int .i64 0,.pointer (some ⟨W.heap.size,0,none⟩),.string s,.int .i64 w,.func (.func 184) #[] #[.pointer (some ⟨W.heap.size+2,0,none⟩),.pointer (some ⟨W.heap.size+1,0,none⟩)],.agg (lnCells x).toArray,undef,undef,undef],defers:=[]})
  ?assign ?body ?done ?stop;case assign=>rintro k0 ⟨T,V,F,N,E⟩ W' K hK;dsimp only[lnV,lnCells]at hK⊢;gi_wp2;simpa using hK
 case body=>rintro k0 pre x W' ⟨⟨hv,hbw⟩,hB⟩ hlt;have hc:=hv.cell;have hf:=hv.frozen;have hBs:=hB.size;gi_wp2;obtain⟨hkl,hbw2⟩:=keep_set (v':=.int .i64 ((pre.length:Int)+1)) (by omega) hv hbw;exact⟨(KeepsOthers.setCell _ _ _).from _,hkl,⟨by have:=hv.set (.int .i64 ((pre.length:Int)+1));simpa using this,hbw2⟩,hB.setCell (p:=⟨W.heap.size,0,none⟩) (Nat.le_refl _) _⟩
 case done=>rintro D ys W' hD rfl ⟨⟨hv,hbw⟩,hB⟩ hK;have hc:=hv.cell;gi_wp2;refine⟨by simp,.inl ⟨_,_,rfl,run_takeDeferred hK,?_⟩⟩;exact⟨_,results_tmp rfl _ _ _,rfl,hB.trans (belowK_b (w:=W) (Nat.le_refl _) W' D _ _ (by omega) hK rfl rfl)⟩
 case stop=>rintro D c pre W' _ _ h _;exact h.elim
end
end Go.Proofs.YtnponhbgicbkcaaGreatDoor
