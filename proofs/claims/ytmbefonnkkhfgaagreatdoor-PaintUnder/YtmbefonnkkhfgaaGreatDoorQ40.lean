import Derived.Test.YtmbefonnkkhfgaaGreatDoorQ00
import Derived.RangeFuncNested
import Derived.RangeFuncBound
import Derived.RangeFuncCalls
import Derived.RangeFuncLeaves
import Derived.RangeFuncBox
import Derived.Shelf.Abstract
import Derived.Shelf.RegionOpen
import Derived.WalkKit
import Derived.OwnWalkIn
import Derived.TacticsInMore
import Derived.LoopNIn
import Derived.LoopIn
import Derived.Sort.CutIn
import Derived.Test.YtmbefonnkkhfgaaGreatDoorQ37
import Derived.Test.YtmbefonnkkhfgaaGreatDoorQ24
import Derived.Maps.AppendAt
import Derived.Test.YtmbefonnkkhfgaaGreatDoorQ02
set_option linter.unusedVariables false
set_option maxRecDepth 100000
set_option maxHeartbeats 16000000
namespace Go.Proofs.YtmbefonnkkhfgaaGreatDoor
section
open Go.RowKit Go.Shelf Go.Proofs.Tryz
attribute[local go_sem] Oper.semAt_some
def KeepL(Bw:Nat)(W W':World):Prop:=(∀(k:Nat) (c:Array Value) (fz:Nat×Nat),W.heap[k]?=some (.cells c 38 fz)->W'.heap[k]?=some (.cells c 38 fz))∧W'.heap[Bw]?=W.heap[Bw]?
theorem KeepL.trans{Bw:Nat}{A B C:World}(h:KeepL Bw A B)(k:KeepL Bw B C):KeepL Bw A C:=⟨fun i c fz e=>k.1 i c fz (h.1 i c fz e),k.2.trans h.2⟩
theorem keepL_row{Bw:Nat}{W W':World}(h:KeepL Bw W W'){B n:Nat}{v:Value}{xs:List Value}(ho:W.ownsRow B 38 2 v n xs):W'.ownsRow B 38 2 v n xs:=by refine⟨ho.1,ho.2.imp id ?_⟩;rintro⟨g,cap,cur,e1,e2,e3,e4⟩;exact⟨g,cap,cur,e1,e2,h.1 g cur _ e3,e4⟩
theorem below_grown{W W':World}(h:Below W.heap.size W W'):W.grownBy W' none:=⟨h.os,h.tape,h.output,h.size,fun k hk _=>h.block k hk⟩
theorem own_clsC{w:World}{B:Nat}{v:Value}{l:List (List UInt8×Int)}(h:w.ownsRow B 38 2 v l.length (cCells l)):ClsC w v l:=(clsO_own h).clsC
theorem own_below3{w w':World}{B n:Nat}{e:TypeId}{v:Value}{xs:List Value}(h:w.ownsRow B e 2 v n xs)(hb:Below w.heap.size w w'):w'.ownsRow B e 2 v n xs:=by refine⟨h.1,h.2.imp id ?_⟩;rintro⟨g,cap,cur,e1,e2,e3,e4⟩;exact⟨g,cap,cur,e1,e2,(hb.block g (Array.getElem?_eq_some_iff.1 e3).1).trans e3,e4⟩
theorem clsC_sub{w:World}{b off cap a n:Nat}{l:List (List UInt8×Int)}(hn:a+n≤l.length)(hcap:l.length≤cap)(hmax:cap≤maxLen)(hb:b<w.heap.size)(hc:∀j (hj:j<l.length),w.cell? ⟨b,off+j*2,none⟩=some (.string ⟨(l[j]).1.toArray⟩)∧w.cell? ⟨b,off+j*2+1,none⟩=some (Iq (l[j]).2)):
 ClsC w (.slice (if cap=a then some ⟨b,off,none⟩else some ⟨b,off+a*2,none⟩) n (cap-a)) ((l.drop a).take n):=by
 have hl:((l.drop a).take n).length=n:=by rw[List.length_take,List.length_drop];omega
 refine⟨_,_,by rw[hl],by rw[hl];omega,by omega,?_⟩;by_cases e:cap=a;·left;exact List.length_eq_zero_iff.1 (by rw[hl];omega)
 ·right;rw[if_neg e];refine⟨b,off+a*2,rfl,hb,fun j hj=>?_⟩;rw[hl]at hj;have:=hc (a+j) (by omega);rw[List.getElem_take,List.getElem_drop,show off+a*2+j*2=off+(a+j)*2 by omega];exact this
def lnV(x:Ln):Array Value:=#[.agg #[.string ⟨x.T.toArray⟩,Iq x.W,Iq x.F,Iq x.N,Iq x.E]]
theorem each1_in(n:Nat)(hn:3≤n)(k0 Bw Bs:Nat)(s:ByteArray)(w:Int)(l:List (List UInt8×Int))(hl:clus (runes s.data.toList)=l)(hs:s.size≤68719476736)(hw0:-9223372036854775808≤w)(hw1:w≤9223372036854775807)(J Jx:List Ln->World->Prop)(W:World)
    (hJ:AbidesFrom W.heap.size J)
    (hY:∀pre x W1,J pre W1->pre.length<l.length+1->YieldAt Fence.wide (n-1) prog k0 (lnV x) W1 fun e W'=>
      (e=.returned (.bool true)∧J (pre++[x]) W'∧KeepL Bw W1 W')∨(e=.returned (.bool false)∧Jx (pre++[x]) W'))
    (ht:∀W',Below W.heap.size W W'->TabAt W')
    (hBw:W.heap[Bw]?=some (.cells #[Iq w] 3 (0,0))) (hBs:W.heap[Bs]?=some (.cells #[.string s] 9 (0,0))) (h0:J [] W):
    CallsIn Fence.wide n prog 171 #[.func (.yield k0) #[] #[],Pq Bw,Pq Bs] W fun e W'=>(∃v,e=.returned v)∧
      ((∃ys,ys=linesOf l w∧J ys W')∨(∃pre,True∧Jx pre W')):=by
  have hsl:s.data.toList.length=s.size:=by rw[Array.length_toList];rfl
  have hR:=runes_length s.data.toList;have hC:=clus_length (runes s.data.toList);have hbd:=clus_wide (runes s.data.toList);have hsh:=clus_short (runes s.data.toList);rw[hsl]at hR;rw[hl]at hC hbd hsh;have cw:W.cell? ⟨Bw,0,none⟩=some (Iq w):=by simp[World.cell?,hBw]
  have cs:W.cell? ⟨Bs,0,none⟩=some (.string s):=by simp[World.cell?,hBs]
  have HBw:=qH<|hBw;have HBD:=qH<|hbd;have HSH:=qH<|hsh;have HL:=qH<|hl;have HT:=qH<|ht;have HJ:=qH<|hJ;have HY:=qH<|hY;clear hBw hBs hbd hsh hl ht hJ hY hsl;refine callsIn_of_wp func171 rfl trivial ?_ rfl;simp only[ntmps171,List.size_toArray,List.length_cons,List.length_nil,Nat.reduceAdd,Nat.reduceSub,Array.replicate_succ,Array.replicate_zero,List.push_toArray,List.append_toArray,List.nil_append,List.cons_append];by_cases hlt:w<1
  · have HE:Hid (linesOf l w=[]):=by show _=_;rw[linesOf,if_pos hlt]
    gi_wp2;refine bodyPost_ret (results_none rfl _ _ _) rfl ?_;exact⟨⟨_,rfl⟩,.inl ⟨[],HE.symm,h0⟩⟩
  have HE:Hid (linesOf l w=linesA l w 0):=by show _=_;rw[linesOf,if_neg hlt]
  have hw1':1≤w:=by omega
  have G:Hid (Calls prog 9 #[.string s] W fun e w'=>∃v,e=.returned v∧w'.ownsRow W.heap.size 38 2 v l.length (cCells l)∧Below W.heap.size W w'):=by have :=gClusters_any s W (HT W (Below.refl _ _)) (by omega);rw[HL.out]at this;exact this
  gi_wp2_with fail;refine⟨trivial,fun _=>by omega,(callsIn_wide.2 G).mono ?_⟩;rintro e w1 ⟨v1,rfl,o1,b1⟩;have HO1:=qH<|o1;have j1:=HJ.out [] W w1 none h0 (below_grown b1) (fun r e=>by cases e);have hBwl:=(Array.getElem?_eq_some_iff.1 HBw).1;have w1Bw:=qH<|(b1.block Bw hBwl).trans HBw;have hs1:=b1.size;obtain⟨a1,cap,rfl,hcap,hmax,hh1⟩:=own_clsC o1;clear G HBw cw cs o1 hh1;gi_wp2;gi_loopw[5] (fun p wr=>∃(a:Nat) (pre:List Ln),p=Iq a∧a≤l.length∧Hid (pre++linesA l w a=linesA l w 0)∧Hid (wr.ownsRow W.heap.size 38 2 (.slice a1 l.length cap) l.length (cCells l))∧Hid (wr.heap[Bw]?=some (.cells #[Iq w] 3 (0,0)))∧J pre wr) (fun p _=>l.length-(intOf p).toNat);case atStart=>exact⟨0,[],rfl,Nat.zero_le _,rfl,HO1,w1Bw,j1⟩
  case round=>
    obtain⟨a,pre,rfl,ha,hpre,hown,hbw,hJs⟩:=hrel;have cw:wr.cell? ⟨Bw,0,none⟩=some (Iq w):=by have :=hbw.out;simp[World.cell?,this]
    have hBwr:=(Array.getElem?_eq_some_iff.1 hbw).1;clear j1 HO1 w1Bw b1;have hcs:(l=[]∧a1=none∧cap=0)∨∃b,a1=some ⟨b,0,none⟩:=by
      rcases hown.2 with⟨e1,e2⟩|⟨g,cp,cur,e1,_⟩;·injection e1 with e3 e4 e5;exact .inl ⟨List.length_eq_zero_iff.1 e2,e3,e5⟩
      ·injection e1 with e3 e4 e5;exact .inr ⟨g,e3⟩
    have hal:(a:Int)≤(l.length:Int):=by omega
    have hlc:(l.length:Int)≤(cap:Int):=by omega
    rcases hcs with⟨e1,rfl,rfl⟩|⟨b,rfl⟩
    · have hmx:prog.follows .mixedOrders=true:=by kernel_rfl
      have hl0:l.length=0:=by rw[e1];rfl
      obtain rfl:a=0:=by omega
      have hLn:lnAt l w 0=⟨[],0,0,0,3⟩:=by
        rw[e1];have h1:¬w<0:=by omega
        simp[lnAt,firstL,fitN,joined,wideSum,h1]
      have HLN2:=qH<|hLn;have HF:Hid (linesOf l w=pre++[lnAt l w 0]):=by show _=_;rw[HE.out,<-hpre.out,linesA_end (Nat.zero_le _) (by rw[hLn])]
      have hpl:pre.length<l.length+1:=by have :=congrArg List.length hpre;have h2:=(linesA_length l w 0 (Nat.zero_le _)).1;rw[List.length_append]at this;omega
      have hcl0:∀w',ClsC w' (.slice none 0 0) []:=fun w'=>⟨none,0,rfl,Nat.le_refl _,Nat.zero_le _,.inl rfl⟩;have HFL:Hid (Calls prog 172 #[.slice none 0 0,Iq w] wr.drew fun e w'=>e=.returned (.tuple #[Iq 0,Iq 0,Iq 3])∧Below wr.heap.size wr w'):=by refine(firstLine_any [] _ w wr.drew (hcl0 _) (by simp) (by simp) hw1' hw1).mono ?_;rintro e w2 ⟨rfl,b2⟩;exact⟨by simp[firstL,fitN],((Below.refl wr.heap.size wr).drew).trans b2⟩
      have HLO:Hid (∀w',Calls prog 173 #[.slice none 0 0,Iq w] w' fun e w2=>e=.returned (.agg #[.string ⟨#[]⟩,Iq 0,Iq 0,Iq 0,Iq 0])∧Below w'.heap.size w' w2):=by
        intro w';refine(lineOf_any [] _ w w' (hcl0 w').cls (by simp) (by simp) (by simp[joined]) hw1' (fun h=>by simp[wideSum]at h;omega)).mono ?_;rintro e w2 ⟨rfl,b2⟩;refine⟨?_,b2⟩;have h1:¬w<0:=by omega
        simp[lineO,lineV,joined,wideSum,h1]
      rw[hl0];clear hLn hcl0;gi_wp2_with fail;gi_cut[6,7,8]from 14 (fun x y z wx=>x=Iq 0∧y=Iq 0∧z=Iq 3∧Below wr.heap.size wr wx);case first=>
        gi_region_with_o(refine⟨trivial,fun _=>by omega,(callsIn_wide.2 HFL).mono ?_⟩;rintro e wq ⟨rfl,bq⟩);all_goals(gi_wp2_with fail)
        all_goals(gi_meet)
        all_goals(exact⟨rfl,rfl,rfl,bq⟩)
      case rest=>
        obtain⟨rfl,rfl,rfl,bx⟩:=hcut;have hsx:=bx.size;have cwx:=(bx.cell (p:=⟨Bw,0,none⟩) hBwr).trans cw;have hBwc:Bw<wc.heap.size:=by omega
        have hBwn:¬Bw=wc.heap.size:=by omega
        clear cw HFL;gi_wp2_with fail;gi_cut[9]from 14 (fun p wx=>∃B,p=Pq B∧wr.heap.size≤B∧wx.heap[B]?=some (.cells #[.string ⟨#[]⟩,Iq 0,Iq 0,Iq 0,Iq 0] 201 (0,0))∧Below wr.heap.size wr wx);case first=>
          have HLG:Hid (∀w',(w'=wc.drew∨w'=(wc.alloc (.cells #[.string ⟨#[]⟩,Iq 0,Iq 0,Iq 0,Iq 0] 201)).drew)->Calls prog 173 #[.slice none 0 0,Iq w] w' fun e w2=>e=.returned (.agg #[.string ⟨#[]⟩,Iq 0,Iq 0,Iq 0,Iq 0])∧Below wr.heap.size wr w2∧
              (w'=(wc.alloc (.cells #[.string ⟨#[]⟩,Iq 0,Iq 0,Iq 0,Iq 0] 201)).drew->wc.heap.size<w2.heap.size∧w2.heap[wc.heap.size]?=some (.cells #[.string ⟨#[]⟩,Iq 0,Iq 0,Iq 0,Iq 0] 201 (0,0)))):=by
            intro w' hw';have hbw':Below wr.heap.size wr w':=by
              rcases hw' with rfl|rfl;·exact bx.drew
              ·exact(bx.alloc hsx _).drew
            refine(HLO w').mono ?_;rintro e w2 ⟨rfl,b2⟩;refine⟨rfl,hbw'.trans (b2.mono hbw'.size),?_⟩;rintro rfl;have hlt3:wc.heap.size<(wc.alloc (.cells #[.string ⟨#[]⟩,Iq 0,Iq 0,Iq 0,Iq 0] 201)).drew.heap.size:=by show wc.heap.size<(wc.alloc _).heap.size;rw[World.size_alloc];omega
            exact⟨Nat.lt_of_lt_of_le hlt3 b2.size,(b2.block _ hlt3).trans (heap_alloc_new wc _)⟩
          have HLA:Hid (Calls prog 173 #[.slice none 0 0,Iq w] wc.drew fun e w2=>e=.returned (.agg #[.string ⟨#[]⟩,Iq 0,Iq 0,Iq 0,Iq 0])∧Below wr.heap.size wr w2):=by refine(HLG _ (Or.inl rfl)).mono ?_;rintro e w2 ⟨h1,h2,_⟩;exact⟨h1,h2⟩
          have HLB:Hid (Calls prog 173 #[.slice none 0 0,Iq w] (wc.alloc (.cells #[.string ⟨#[]⟩,Iq 0,Iq 0,Iq 0,Iq 0] 201)).drew fun e w2=>e=.returned (.agg #[.string ⟨#[]⟩,Iq 0,Iq 0,Iq 0,Iq 0])∧Below wr.heap.size wr w2∧wc.heap.size<w2.heap.size∧w2.heap[wc.heap.size]?=some (.cells #[.string ⟨#[]⟩,Iq 0,Iq 0,Iq 0,Iq 0] 201 (0,0))):=by refine(HLG _ (Or.inr rfl)).mono ?_;rintro e w2 ⟨h1,h2,h3⟩;exact⟨h1,h2,(h3 rfl).1,(h3 rfl).2⟩
          clear HLO HLG;gi_region_with_o(refine⟨trivial,fun _=>by omega,?_⟩;(first|(refine(callsIn_wide.2 HLA).mono ?_;rintro e wq ⟨rfl,bq⟩)|(refine(callsIn_wide.2 HLB).mono ?_;rintro e wq ⟨rfl,bq,hzl,hzr⟩;have q0:wq.cell? ⟨wc.heap.size,0,none⟩=some (.string ⟨#[]⟩):=(by simp[World.cell?,hzr]);have q1:wq.cell? ⟨wc.heap.size,1,none⟩=some (Iq 0):=(by simp[World.cell?,hzr]);have q2:wq.cell? ⟨wc.heap.size,2,none⟩=some (Iq 0):=(by simp[World.cell?,hzr]);have q3:wq.cell? ⟨wc.heap.size,3,none⟩=some (Iq 0):=(by simp[World.cell?,hzr]);have q4:wq.cell? ⟨wc.heap.size,4,none⟩=some (Iq 0):=(by simp[World.cell?,hzr]);have fr:∀j,wq.frozen? ⟨wc.heap.size,j,none⟩=false:=(fun j=>frozen_of_row _ _ _ _ _ hzr);have HZR:=qH<|hzr;clear hzr)));all_goals(gi_wp2_with fail)
          all_goals(gi_meet)
          all_goals(first
            |exact⟨_,rfl,bq.size,heap_alloc_new _ _,bq.alloc bq.size _⟩
            |exact⟨_,rfl,hsx,row5 HZR,((((bq.setCell (p:=⟨wc.heap.size,0,none⟩) hsx _).setCell (p:=⟨wc.heap.size,1,none⟩) hsx _).setCell (p:=⟨wc.heap.size,2,none⟩) hsx _).setCell (p:=⟨wc.heap.size,3,none⟩) hsx _).setCell (p:=⟨wc.heap.size,4,none⟩) hsx _⟩)
        case rest=>
          obtain⟨B,rfl,hB,hrow,by2⟩:=hcut;have hsy:=by2.size;have q0:wc.cell? ⟨B,0,none⟩=some (.string ⟨#[]⟩):=by simp[World.cell?,hrow]
          have q1:wc.cell? ⟨B,1,none⟩=some (Iq 0):=by simp[World.cell?,hrow]
          have q2:wc.cell? ⟨B,2,none⟩=some (Iq 0):=by simp[World.cell?,hrow]
          have q3:wc.cell? ⟨B,3,none⟩=some (Iq 0):=by simp[World.cell?,hrow]
          have q4:wc.cell? ⟨B,4,none⟩=some (Iq 0):=by simp[World.cell?,hrow]
          have fr:∀j,wc.frozen? ⟨B,j,none⟩=false:=fun j=>frozen_of_row _ _ _ _ _ hrow;have bz:Below wr.heap.size wr ((wc.setCell ⟨B,2,none⟩ (Iq 0)).setCell ⟨B,4,none⟩ (Iq 3)):=(by2.setCell (p:=⟨B,2,none⟩) hB _).setCell (p:=⟨B,4,none⟩) hB _;have jz:=HJ pre wr _ none hJs (below_grown bz) (fun r e=>by cases e);obtain⟨fn,tmps,assign,body,hy,hR⟩:=HY pre (lnAt l w 0) _ jz hpl;rw[HLN2.out]at hy;change(Instr.yield k0 #[.agg #[.string ⟨#[]⟩,Iq 0,Iq 0,Iq 0,Iq 3]]).run prog _=_ at hy;have HR:=qH<|hR;clear hrow cwx hR jz;gi_wp2;refine⟨fun _=>by omega,HR.mono ?_⟩;clear HR hy;rintro e W3 (⟨rfl,hJ3,hk3⟩|⟨rfl,hJx3⟩);·gi_wp2;refine bodyPost_ret (results_none rfl _ _ _) rfl ?_;exact⟨⟨_,rfl⟩,.inl ⟨_,HF.symm,hJ3⟩⟩
          ·gi_wp2;refine bodyPost_ret (results_none rfl _ _ _) rfl ?_;exact⟨⟨_,rfl⟩,.inr ⟨_,trivial,hJx3⟩⟩
    · have hmx:prog.follows .mixedOrders=true:=by kernel_rfl
      have hle:=firstL_le (l.drop a) w;rw[List.length_drop]at hle;have HX:Hid (linesA l w a=if(lnAt l w a).E=3 then[lnAt l w a]else lnAt l w a::linesA l w (nxt l w a)):=by
        show _=_;by_cases h:(lnAt l w a).E=3;·rw[if_pos h,linesA_end ha h]
        ·rw[if_neg h,linesA_step ha h]
      have HNL:=qH<|nxt_lt l w a;have HNX:Hid (nxt l w a=a+(firstL (l.drop a) w).n+(firstL (l.drop a) w).d):=rfl;have hlA:=(linesA_length l w a ha).1;have hlA0:=(linesA_length l w 0 (Nat.zero_le _)).2;have hcl:∀w',Below wr.heap.size wr w'->∀n,a+n≤l.length->ClsC w' (.slice (if cap=a then some ⟨b,0,none⟩else some ⟨b,a*2,none⟩) n (cap-a)) ((l.drop a).take n):=by
        intro w' hb n hn;obtain⟨a',cap',e1,_,_,hh⟩:=(own_clsC hown).below hb;cases e1;rcases hh with hh|⟨b',off',e2,hb',hc'⟩
        · subst hh;have e0:n=0:=by simp at hn;omega
          subst e0;exact⟨_,_,rfl,by simp,by omega,.inl (by simp)⟩
        ·cases e2;have :=clsC_sub (a:=a) (n:=n) hn hcap hmax hb' hc';simpa using this
      have HCL:=qH<|hcl;have hFL:Calls prog 172 #[.slice (if cap=a then some ⟨b,0,none⟩else some ⟨b,a*2,none⟩) (l.length-a) (cap-a),Iq w] wr.drew fun e w'=>e=.returned (.tuple #[Iq (firstL (l.drop a) w).n,Iq (firstL (l.drop a) w).d,Iq (firstL (l.drop a) w).e])∧Below wr.heap.size wr w':=by have h1:=hcl wr.drew ((Below.refl _ _).drew) (l.length-a) (by omega);rw[List.take_of_length_le (by rw[List.length_drop];omega)]at h1;refine(firstLine_any (l.drop a) _ w wr.drew h1 (fun c hc=>HBD c (List.mem_of_mem_drop hc)) (by rw[List.length_drop];omega) hw1' hw1).mono ?_;rintro e w2 ⟨rfl,b2⟩;exact⟨rfl,((Below.refl wr.heap.size wr).drew).trans b2⟩
      have HLO:Hid (∀w' v,Cls w' v ((l.drop a).take (firstL (l.drop a) w).n)->Calls prog 173 #[v,Iq w] w' fun e w2=>e=.returned (lineO ((l.drop a).take (firstL (l.drop a) w).n) w)∧Below w'.heap.size w' w2):=by
        intro w' v hv;have hb2:∀c∈(l.drop a).take (firstL (l.drop a) w).n,0≤c.2∧c.2≤2:=fun c hc=>HBD c (List.mem_of_mem_drop (List.mem_of_mem_take hc));have hl2:((l.drop a).take (firstL (l.drop a) w).n).length≤l.length:=by rw[List.length_take,List.length_drop];omega
        have hj2:=joined_bd _ (fun c hc=>HSH c (List.mem_of_mem_drop (List.mem_of_mem_take hc)):∀c∈(l.drop a).take (firstL (l.drop a) w).n,c.1.length≤20);have hs2:=(wideSum_bd _ hb2 ((l.drop a).take (firstL (l.drop a) w).n).length).2;rw[List.take_length]at hs2;exact lineOf_any _ v w w' hv hb2 (by omega) (by omega) hw1' (fun _=>by omega)
      have HLN:Hid (∃(T:List UInt8) (V:Int) (N:Nat),lineO ((l.drop a).take (firstL (l.drop a) w).n) w=.agg #[.string ⟨T.toArray⟩,Iq V,Iq 0,Iq N,Iq 0]∧lnAt l w a=⟨T,V,a,N,(firstL (l.drop a) w).e⟩):=by
        by_cases hwd:w<wideSum ((l.drop a).take (firstL (l.drop a) w).n);·exact⟨List.replicate w.toNat 32,w,1,by rw[lineO,if_pos hwd];rfl,by simp only[lnAt];rw[if_pos hwd]⟩
        ·exact⟨joined ((l.drop a).take (firstL (l.drop a) w).n),wideSum ((l.drop a).take (firstL (l.drop a) w).n),((l.drop a).take (firstL (l.drop a) w).n).length,by rw[lineO,if_neg hwd];rfl,by simp only[lnAt];rw[if_neg hwd]⟩
      obtain⟨n1,hn1⟩:=nmd ((firstL (l.drop a) w).n);obtain⟨d1,hd1⟩:=nmd ((firstL (l.drop a) w).d);obtain⟨e1,he1⟩:=nmd ((firstL (l.drop a) w).e);rw[hn1,hd1,he1]at hFL;rw[hn1]at HLO;rw[hn1,he1]at HLN;rw[hn1,hd1]at HNX hle;have HFL:=qH<|hFL;obtain⟨pp,hpp⟩:=nmd (if cap=a then some (⟨b,0,none⟩:Addr)else some ⟨b,a*2,none⟩);rw[hpp]at HFL HCL;clear hFL hcl hn1 hd1 he1;gi_wp2_with fail;gi_cut[6,7,8]from 14 (fun x y z wx=>x=Iq n1∧y=Iq d1∧z=Iq e1∧Below wr.heap.size wr wx);case first=>
        gi_region_with_o(refine⟨trivial,fun _=>by omega,(callsIn_wide.2 HFL).mono ?_⟩;rintro e wq ⟨rfl,bq⟩);all_goals(gi_wp2_with fail)
        all_goals(gi_meet)
        all_goals(exact⟨rfl,rfl,rfl,bq⟩)
      case rest=>
        obtain⟨rfl,rfl,rfl,bx⟩:=hcut;have hsx:=bx.size;have cwx:=(bx.cell (p:=⟨Bw,0,none⟩) hBwr).trans cw;have hBwc:Bw<wc.heap.size:=by omega
        have hBwn:¬Bw=wc.heap.size:=by omega
        clear cw HFL;obtain⟨T,V,N,hlo,hln⟩:=HLN.out;rw[hlo]at HLO;have HLN2:=qH<|hln;have hwr:IntKind.i64.wrap ((a:Int)+(n1:Int))=(a:Int)+(n1:Int):=by exact IntWalk.i64_in _ ⟨by omega,by omega⟩
        have hq1:(0:Int)≤(a:Int)+(n1:Int):=by omega
        have hq2:(a:Int)+(n1:Int)≤(cap:Int):=by omega
        have hq3:((a:Int)+(n1:Int)).toNat=a+n1:=by omega
        clear HLN hlo hln;gi_wp2_with fail;gi_cut[9]from 14 (fun p wx=>∃B,p=Pq B∧wr.heap.size≤B∧wx.heap[B]?=some (.cells #[.string ⟨T.toArray⟩,Iq V,Iq 0,Iq N,Iq 0] 201 (0,0))∧Below wr.heap.size wr wx);case first=>
          have HLG:Hid (∀w',(w'=wc.drew∨w'=(wc.alloc (.cells #[.string ⟨#[]⟩,Iq 0,Iq 0,Iq 0,Iq 0] 201)).drew)->Calls prog 173 #[.slice pp n1 (cap-a),Iq w] w' fun e w2=>e=.returned (.agg #[.string ⟨T.toArray⟩,Iq V,Iq 0,Iq N,Iq 0])∧Below wr.heap.size wr w2∧
              (w'=(wc.alloc (.cells #[.string ⟨#[]⟩,Iq 0,Iq 0,Iq 0,Iq 0] 201)).drew->wc.heap.size<w2.heap.size∧w2.heap[wc.heap.size]?=some (.cells #[.string ⟨#[]⟩,Iq 0,Iq 0,Iq 0,Iq 0] 201 (0,0)))):=by
            intro w' hw';have hbw':Below wr.heap.size wr w':=by
              rcases hw' with rfl|rfl;·exact bx.drew
              ·exact(bx.alloc hsx _).drew
            refine(HLO w' _ (HCL w' hbw' n1 (by omega)).cls).mono ?_;rintro e w2 ⟨rfl,b2⟩;refine⟨rfl,hbw'.trans (b2.mono hbw'.size),?_⟩;rintro rfl;have hlt3:wc.heap.size<(wc.alloc (.cells #[.string ⟨#[]⟩,Iq 0,Iq 0,Iq 0,Iq 0] 201)).drew.heap.size:=by show wc.heap.size<(wc.alloc _).heap.size;rw[World.size_alloc];omega
            exact⟨Nat.lt_of_lt_of_le hlt3 b2.size,(b2.block _ hlt3).trans (heap_alloc_new wc _)⟩
          have HLA:Hid (Calls prog 173 #[.slice pp n1 (cap-a),Iq w] wc.drew fun e w2=>e=.returned (.agg #[.string ⟨T.toArray⟩,Iq V,Iq 0,Iq N,Iq 0])∧Below wr.heap.size wr w2):=by refine(HLG _ (Or.inl rfl)).mono ?_;rintro e w2 ⟨h1,h2,_⟩;exact⟨h1,h2⟩
          have HLB:Hid (Calls prog 173 #[.slice pp n1 (cap-a),Iq w] (wc.alloc (.cells #[.string ⟨#[]⟩,Iq 0,Iq 0,Iq 0,Iq 0] 201)).drew fun e w2=>e=.returned (.agg #[.string ⟨T.toArray⟩,Iq V,Iq 0,Iq N,Iq 0])∧Below wr.heap.size wr w2∧wc.heap.size<w2.heap.size∧w2.heap[wc.heap.size]?=some (.cells #[.string ⟨#[]⟩,Iq 0,Iq 0,Iq 0,Iq 0] 201 (0,0))):=by refine(HLG _ (Or.inr rfl)).mono ?_;rintro e w2 ⟨h1,h2,h3⟩;exact⟨h1,h2,(h3 rfl).1,(h3 rfl).2⟩
          clear HLO HCL HLG;gi_region_with_o(refine⟨trivial,fun _=>by omega,?_⟩;(first|(refine(callsIn_wide.2 HLA).mono ?_;rintro e wq ⟨rfl,bq⟩)|(refine(callsIn_wide.2 HLB).mono ?_;rintro e wq ⟨rfl,bq,hzl,hzr⟩;have q0:wq.cell? ⟨wc.heap.size,0,none⟩=some (.string ⟨#[]⟩):=(by simp[World.cell?,hzr]);have q1:wq.cell? ⟨wc.heap.size,1,none⟩=some (Iq 0):=(by simp[World.cell?,hzr]);have q2:wq.cell? ⟨wc.heap.size,2,none⟩=some (Iq 0):=(by simp[World.cell?,hzr]);have q3:wq.cell? ⟨wc.heap.size,3,none⟩=some (Iq 0):=(by simp[World.cell?,hzr]);have q4:wq.cell? ⟨wc.heap.size,4,none⟩=some (Iq 0):=(by simp[World.cell?,hzr]);have fr:∀j,wq.frozen? ⟨wc.heap.size,j,none⟩=false:=(fun j=>frozen_of_row _ _ _ _ _ hzr);have HZR:=qH<|hzr;clear hzr)));all_goals(gi_wp2_with fail)
          all_goals(gi_meet)
          all_goals(first
            |exact⟨_,rfl,bq.size,heap_alloc_new _ _,bq.alloc bq.size _⟩
            |exact⟨_,rfl,hsx,row5 HZR,((((bq.setCell (p:=⟨wc.heap.size,0,none⟩) hsx _).setCell (p:=⟨wc.heap.size,1,none⟩) hsx _).setCell (p:=⟨wc.heap.size,2,none⟩) hsx _).setCell (p:=⟨wc.heap.size,3,none⟩) hsx _).setCell (p:=⟨wc.heap.size,4,none⟩) hsx _⟩)
        case rest=>
          obtain⟨B,rfl,hB,hrow,by2⟩:=hcut;have hsy:=by2.size;have q0:wc.cell? ⟨B,0,none⟩=some (.string ⟨T.toArray⟩):=by simp[World.cell?,hrow]
          have q1:wc.cell? ⟨B,1,none⟩=some (Iq V):=by simp[World.cell?,hrow]
          have q2:wc.cell? ⟨B,2,none⟩=some (Iq 0):=by simp[World.cell?,hrow]
          have q3:wc.cell? ⟨B,3,none⟩=some (Iq N):=by simp[World.cell?,hrow]
          have q4:wc.cell? ⟨B,4,none⟩=some (Iq 0):=by simp[World.cell?,hrow]
          have fr:∀j,wc.frozen? ⟨B,j,none⟩=false:=fun j=>frozen_of_row _ _ _ _ _ hrow;have bz:Below wr.heap.size wr ((wc.setCell ⟨B,2,none⟩ (Iq a)).setCell ⟨B,4,none⟩ (Iq e1)):=(by2.setCell (p:=⟨B,2,none⟩) hB _).setCell (p:=⟨B,4,none⟩) hB _;have jz:=HJ pre wr _ none hJs (below_grown bz) (fun r e=>by cases e);have hpl:pre.length<l.length+1:=by have :=congrArg List.length hpre;rw[List.length_append]at this;omega
          obtain⟨fn,tmps,assign,body,hy,hR⟩:=HY pre (lnAt l w a) _ jz hpl;rw[HLN2.out]at hy;dsimp only[lnV]at hy;have HR:=qH<|hR;clear hrow cwx hR jz;gi_wp2;refine⟨fun _=>by omega,HR.mono ?_⟩;clear HR hy;rintro e W3 (⟨rfl,hJ3,hk3⟩|⟨rfl,hJx3⟩)
          · have hown3:=qH<|keepL_row hk3 (own_below3 hown bz);have hbw3:=qH<|(hk3.2.trans (bz.block Bw hBwr)).trans hbw;have hE:(lnAt l w a).E=e1:=by rw[HLN2.out]
            by_cases h3:e1=3
            · have HF:Hid (linesOf l w=pre++[lnAt l w a]):=by show _=_;rw[HE.out,<-hpre.out,HX.out,if_pos (by rw[hE,h3])]
              clear hE;subst h3;gi_wp2;refine bodyPost_ret (results_none rfl _ _ _) rfl ?_;exact⟨⟨_,rfl⟩,.inl ⟨_,HF.symm,hJ3⟩⟩
            · have hne3:(lnAt l w a).E≠3:=by rw[hE];exact h3
              have hnl:=HNL hne3;have HF:Hid ((pre++[lnAt l w a])++linesA l w (nxt l w a)=linesA l w 0):=by show _=_;rw[<-hpre.out,HX.out,if_neg hne3];simp
              have hnx':=HNX.out;have HNX':=qH<|hnx';rw[HNX'.out]at HF hnl;clear hE hne3 hnx';gi_wp2;go_roundw;case rel=>exact⟨a+n1+d1,pre++[lnAt l w a],by go_num,by omega,HF,hown3,hbw3,hJ3⟩
              case measure=>simp[intOf];omega
          ·gi_wp2;refine bodyPost_ret (results_none rfl _ _ _) rfl ?_;exact⟨⟨_,rfl⟩,.inr ⟨_,trivial,hJx3⟩⟩
end
section
open Go.RowKit Go.Shelf Go.Proofs.Tryz
attribute[local go_sem] Oper.semAt_some
theorem keepL_put{Bw B:Nat}(hB:Bw<B)(W:World)(l:Nat)(o o':Obj)(hl:B≤l)(h:W.heap[l]?=some o)(hc:o.isCells=false)(_:o.isWalk=false):KeepL Bw W (W.putObj l o'):=by have hg:=grownBy_putObj' W l o';have hls:=(Array.getElem?_eq_some_iff.1 h).1;refine⟨fun k c fz e=>?_,hg.block Bw (by omega) (fun e=>by cases e;omega)⟩;refine(hg.block k (Array.getElem?_eq_some_iff.1 e).1 (fun e'=>?_)).trans e;cases e';rw[h]at e;cases e;cases hc
theorem each_stops(n:Nat)(hn:3≤n)(Bw Bs:Nat)(s:ByteArray)(w:Int)(l:List (List UInt8×Int))(hl:clus (runes s.data.toList)=l)(hs:s.size≤68719476736)(hw0:-9223372036854775808≤w)(hw1:w≤9223372036854775807)(W0:World)(ht:TabAt W0)
 (hBw:W0.heap[Bw]?=some (.cells #[Iq w] 3 (0,0))) (hBs:W0.heap[Bs]?=some (.cells #[.string s] 9 (0,0))):
 SeqStopsK Fence.wide n prog 171 #[Pq Bw,Pq Bs] lnV (KeepL Bw) (fun ys=>ys=linesOf l w) (fun _=>True) (l.length+1) W0:=fun k0 J Jx W hW hJ _ hY h0=>
 each1_in n hn k0 Bw Bs s w l hl hs hw0 hw1 J Jx W hJ hY (fun W' hW'=>(ht.below hW).below hW')
  ((hW.block Bw (Array.getElem?_eq_some_iff.1 hBw).1).trans hBw) ((hW.block Bs (Array.getElem?_eq_some_iff.1 hBs).1).trans hBs) h0
theorem each_any(s:ByteArray)(w:Int)(W:World):
 Calls prog 153 #[.string s,Iq w] W fun e w'=>e=.returned (.func (.func 171) #[] #[Pq (W.heap.size+1),Pq W.heap.size])∧w'=(W.alloc (.cells #[.string s] 9)).alloc (.cells #[Iq w] 3):=by go_enter func153,ntmps153;go_wp2;go_ret;exact⟨rfl,rfl⟩
theorem keep_set{W:World}{B Bw:Nat}{v v' x:Value}(hne:Bw≠B)(hv:Boxed W B 3 v)(hw:Boxed W Bw 3 x):KeepL Bw W (W.setCell ⟨B,0,none⟩ v')∧Boxed (W.setCell ⟨B,0,none⟩ v') Bw 3 x:=by
 have hb:=Boxed.other hw hne v';refine⟨⟨fun j c fz e=>?_,hb.trans hw.symm⟩,hb⟩;have hjB:j≠B:=by rintro rfl;rw[show W.heap[j]?=_ from hv]at e;cases e
 rw[heap_setCell_other _ _ _ _ hjB];exact e
theorem count_any(s:ByteArray)(w:Int)(W:World)(ht:TabAt W)(hs:s.size≤68719476736)(hw0:-9223372036854775808≤w)(hw1:w≤9223372036854775807):
 Calls prog 177 #[.string s,Iq w] W fun e W'=>e=.returned (Iq (linesOf (clus (runes s.data.toList)) w).length)∧Below W.heap.size W W':=by
 have hsl:s.data.toList.length=s.size:=by rw[Array.length_toList];rfl
 have hR:=runes_length s.data.toList;have hC:=clus_length (runes s.data.toList);rw[hsl]at hR;obtain⟨l,hl⟩:=nmd (clus (runes s.data.toList));rw[hl]at hC⊢;refine(callsIn_wide (n:=6)).1 ?_;refine callsIn_of_wp_marks func177 rfl trivial ?_ rfl;simp only[ntmps177,List.size_toArray,List.length_cons,List.length_nil,Nat.reduceAdd,Nat.reduceSub,Array.replicate_succ,Array.replicate_zero,List.push_toArray,List.append_toArray,List.nil_append,List.cons_append];gi_wp2_with fail;refine⟨trivial,(callsIn_wide.2 (each_any s w _)).mono ?_⟩;rintro e w' ⟨rfl,rfl⟩;have bO:=Boxed.new W 3 (Iq 0);obtain⟨W0,hW0⟩:=nmd (((W.alloc (.cells #[Iq 0] 3)).alloc (.cells #[.string s] 9)).alloc (.cells #[Iq w] 3));have bO0:Boxed W0 W.heap.size 3 (Iq 0):=by rw[<-hW0];exact(bO.alloc _).alloc _
 have bS0:Boxed W0 (W.heap.size+1) 9 (.string s):=by rw[<-hW0];have:=Boxed.new (W.alloc (.cells #[Iq 0] 3)) 9 (.string s);rw[World.size_alloc]at this;exact this.alloc _
 have bW0:Boxed W0 (W.heap.size+2) 3 (Iq w):=by rw[<-hW0];have:=Boxed.new ((W.alloc (.cells #[Iq 0] 3)).alloc (.cells #[.string s] 9)) 3 (Iq w);rw[World.size_alloc,World.size_alloc]at this;exact this
 have hB0:Below W.heap.size W W0:=by rw[<-hW0];exact(((Below.refl _ W).alloc (Nat.le_refl _) _).alloc (by simp) _).alloc (by simp;omega) _
 have hsz:W0.heap.size=W.heap.size+3:=by rw[<-hW0];simp
 have ht0:=ht.below hB0;rw[World.size_alloc,hW0];gi_wp2;refine wpIn_rangeFunc_ownG rfl (by omega) (gf:=171) (lb:=#[Pq (W.heap.size+2),Pq (W.heap.size+1)]) rfl trivial (enters_of func171 (by kernel_rfl) rfl)
  (each_stops 5 (by omega) (W.heap.size+2) (W.heap.size+1) s w l hl hs hw0 hw1 W0 ht0 bW0 bS0) KeepL.trans (keepL_put (by omega)) (Below.refl _ _) (fun _=>rfl)
  (fun pre W'=>(Boxed W' W.heap.size 3 (Iq pre.length)∧Boxed W' (W.heap.size+2) 3 (Iq w))∧Below W.heap.size W W')
  (fun _ _ _=>False)
  (OwnFrom.and (OwnFrom.and (Own.from (boxed_own W.heap.size 3 (fun pre:List Ln=>Iq (pre.length:Int))) _) (Own.from (boxed_own _ _ _) _)) (ownFrom_below (Nat.le_refl _) (by omega)))
  (fun _ _ _ _ _ hs _ _=>hs)
  ⟨⟨bO0,bW0⟩,hB0⟩
  (fun x=>{tmps:=#[.string s,Iq w,undef,undef,Iq 0,Pq W.heap.size,.string s,Iq w,.func (.func 171) #[] #[Pq (W.heap.size+2),Pq (W.heap.size+1)],.agg (lnCells x).toArray,undef,undef,undef],defers:=[]})
  ?assign ?body ?done ?stop;case assign=>rintro k0 ⟨T,V,F,N,E⟩ W' K hK;dsimp only[lnV,lnCells]at hK⊢;gi_wp2;simpa using hK
 case body=>rintro k0 pre x W' ⟨⟨hv,hbw⟩,hB⟩ hlt;have hc:=hv.cell;have hf:=hv.frozen;have hBs:=hB.size;gi_wp2;obtain⟨hkl,hbw2⟩:=keep_set (v':=Iq ((pre.length:Int)+1)) (by omega) hv hbw;exact⟨(KeepsOthers.setCell _ _ _).from _,hkl,⟨by have:=hv.set (Iq ((pre.length:Int)+1));simpa using this,hbw2⟩,hB.setCell (p:=⟨W.heap.size,0,none⟩) (Nat.le_refl _) _⟩
 case done=>rintro D ys W' hD rfl ⟨⟨hv,hbw⟩,hB⟩ hK;have hc:=hv.cell;gi_wp2;refine⟨by simp,.inl ⟨_,_,rfl,run_takeDeferred hK,?_⟩⟩;exact⟨_,results_tmp rfl _ _ _,rfl,hB.trans (belowK_b (w:=W) (Nat.le_refl _) W' D _ _ (by omega) hK rfl rfl)⟩
 case stop=>rintro D c pre W' _ _ h _;exact h.elim
end
section
open Go.RowKit Go.Shelf Go.Proofs.Tryz
attribute[local go_sem] Oper.semAt_some
theorem infoLine:(prog.info? 201).map (fun i=>(i.zero,i.size,i.bytes))=some (some (.agg #[.string ⟨#[]⟩,Iq 0,Iq 0,Iq 0,Iq 0]),5,48):=by kernel_rfl
theorem own_not{W:World}{n₀ k:Nat}{v:Value}{xs:List Value}(h:W.ownsRow n₀ 201 5 v k xs){j:Nat}{c:Array Value}{t:TypeId}{fz:Nat×Nat}(hj:W.heap[j]?=some (.cells c t fz))(ht:t≠201):some j≠v.ownBlock:=by
 rcases h.2 with⟨rfl,_⟩|⟨g,cap,cur,rfl,_,hg,_⟩;·simp[Value.ownBlock]
 ·intro e;obtain rfl:j=g:=by simpa[Value.ownBlock]using e
  rw[hj]at hg;cases hg;exact ht rfl
theorem keep_app{W w1:World}{n₀ B Bw k:Nat}{t:TypeId}{v v' x:Value}{xs:List Value}{tmp:Obj}(hte:t≠38)(hBne:Bw≠B)(hv:Boxed W B t v)(hrow:W.ownsRow n₀ 201 5 v k xs)(hw:Boxed W Bw 3 x)(hgrow:(W.alloc tmp).grownBy w1 v.ownBlock):
 KeepL Bw W (w1.setCell ⟨B,0,none⟩ v')∧Boxed (w1.setCell ⟨B,0,none⟩ v') Bw 3 x:=by
 have hb:Boxed (w1.setCell ⟨B,0,none⟩ v') Bw 3 x:=Boxed.other ((hw.alloc tmp).kept hgrow (own_not hrow hw (by decide))) hBne v';refine⟨⟨fun j c fz e=>?_,hb.trans hw.symm⟩,hb⟩;have hjs:=(Array.getElem?_eq_some_iff.1 e).1;have hjB:j≠B:=by rintro rfl;rw[show W.heap[j]?=_ from hv]at e;cases e;exact hte rfl
 rw[heap_setCell_other _ _ _ _ hjB];exact(hgrow.block j (by rw[World.size_alloc];omega) (own_not hrow e (by decide))).trans ((Below.heap_alloc _ _ _ hjs).trans e)
theorem keepL_alloc{W:World}{Bw:Nat}{x:Value}(h:Boxed W Bw 3 x)(o:Obj):KeepL Bw W (W.alloc o):=
 ⟨fun k c fz e=>(Below.heap_alloc _ _ _ (Array.getElem?_eq_some_iff.1 e).1).trans e,Below.heap_alloc _ _ _ h.lt⟩
theorem lines_any(s:ByteArray)(w:Int)(W:World)(ht:TabAt W)(hs:s.size≤68719476736)(hw0:-9223372036854775808≤w)(hw1:w≤9223372036854775807):
 Calls prog 128 #[.string s,Iq w] W fun e W'=>∃v,e=.returned v∧W'.ownsRow W.heap.size 201 5 v (linesOf (clus (runes s.data.toList)) w).length (lCells (linesOf (clus (runes s.data.toList)) w))∧Below W.heap.size W W':=by
 have hsl:s.data.toList.length=s.size:=by rw[Array.length_toList];rfl
 have hR:=runes_length s.data.toList;have hC:=clus_length (runes s.data.toList);rw[hsl]at hR;obtain⟨l,hl⟩:=nmd (clus (runes s.data.toList));rw[hl]at hC⊢;obtain⟨i0,hi,hz0,hz1,hz2⟩:=info_parts infoLine;refine(callsIn_wide (n:=6)).1 ?_;refine callsIn_of_wp_marks func128 rfl trivial ?_ rfl;simp only[ntmps128,List.size_toArray,List.length_cons,List.length_nil,Nat.reduceAdd,Nat.reduceSub,Array.replicate_succ,Array.replicate_zero,List.push_toArray,List.append_toArray,List.nil_append,List.cons_append];gi_wp2_with fail;refine⟨trivial,(callsIn_wide.2 (each_any s w _)).mono ?_⟩;rintro e w' ⟨rfl,rfl⟩;have bO:=Boxed.new W 198 (.slice none 0 0);obtain⟨W0,hW0⟩:=nmd (((W.alloc (.cells #[.slice none 0 0] 198)).alloc (.cells #[.string s] 9)).alloc (.cells #[Iq w] 3));have bO0:Boxed W0 W.heap.size 198 (.slice none 0 0):=by rw[<-hW0];exact(bO.alloc _).alloc _
 have bS0:Boxed W0 (W.heap.size+1) 9 (.string s):=by rw[<-hW0];have:=Boxed.new (W.alloc (.cells #[.slice none 0 0] 198)) 9 (.string s);rw[World.size_alloc]at this;exact this.alloc _
 have bW0:Boxed W0 (W.heap.size+2) 3 (Iq w):=by rw[<-hW0];have:=Boxed.new ((W.alloc (.cells #[.slice none 0 0] 198)).alloc (.cells #[.string s] 9)) 3 (Iq w);rw[World.size_alloc,World.size_alloc]at this;exact this
 have hB0:Below W.heap.size W W0:=by rw[<-hW0];exact(((Below.refl _ W).alloc (Nat.le_refl _) _).alloc (by simp) _).alloc (by simp;omega) _
 have hsz:W0.heap.size=W.heap.size+3:=by rw[<-hW0];simp
 have ht0:TabAt W0:=ht.below hB0;rw[World.size_alloc,hW0];gi_wp2;refine wpIn_rangeFunc_ownH rfl (by omega) (gf:=171) (lb:=#[Pq (W.heap.size+2),Pq (W.heap.size+1)]) rfl trivial (enters_of func171 (by kernel_rfl) rfl)
  (each_stops 5 (by omega) (W.heap.size+2) (W.heap.size+1) s w l hl hs hw0 hw1 W0 ht0 bW0 bS0) KeepL.trans (keepL_put (by omega)) (Below.refl _ _) (fun _=>rfl)
  (fun pre W'=>((∃v,Boxed W' W.heap.size 198 v∧W'.ownsRow W.heap.size 201 5 v pre.length (lCells pre)∧True)∧Boxed W' (W.heap.size+2) 3 (Iq w))∧Below W.heap.size W W')
  (fun _ _ _=>False)
  (OwnFrom.and (OwnFrom.and (Own.from (holdsRow_own W.heap.size W.heap.size 198 201 5 (fun pre:List Ln=>pre.length) (fun pre=>lCells pre) (fun _ _=>True)) _) (Own.from (boxed_own _ _ _) _)) (ownFrom_below (Nat.le_refl _) (by omega)))
  (fun _ _ _ _ _ hs _ _=>hs)
  ⟨⟨⟨_,bO0,World.ownsRow_nil _ _ _ _,trivial⟩,bW0⟩,hB0⟩
  (fun x a' W'=>∃Bx,W'.heap[Bx]?=some (.cells (lnCells x).toArray 201 (0,0))∧a'={tmps:=#[.string s,Iq w,undef,undef,.slice none 0 0,Pq W.heap.size,Pq Bx,.string s,Iq w,.func (.func 171) #[] #[Pq (W.heap.size+2),Pq (W.heap.size+1)],.agg (lnCells x).toArray,undef,undef,undef,undef,undef],defers:=[]})
  ?hAx ?assign ?body ?done ?stop;case hAx=>rintro x a' _ A B row ⟨Bx,h2,h3⟩ hg hr;refine⟨Bx,(hg.block Bx (Array.getElem?_eq_some_iff.1 h2).1 (fun e=>?_)).trans h2,h3⟩;obtain⟨_,o,ho,hc⟩:=hr Bx e.symm;rw[h2]at ho;cases ho;cases hc
 case assign=>rintro k0 pre ⟨T,V,F,N,E⟩ W' K ⟨⟨⟨v,hv,hrow,_⟩,hbw⟩,hB⟩ hK;dsimp only[lnV,lnCells]at hK⊢;have hBs:=hB.size;gi_wp2;exact hK _ _ ((KeepsOthers.alloc _ _).from _) (keepL_alloc hbw _) ⟨⟨⟨v,hv.alloc _,hrow.alloc _,trivial⟩,hbw.alloc _⟩,hB.alloc hB.size _⟩ ⟨W'.heap.size,heap_alloc_new _ _,rfl⟩
 case body=>rintro k0 pre x a' W' hlk ⟨r,hr⟩ ⟨⟨⟨v,hv,hrow,_⟩,hbw⟩,hB⟩ ⟨Bx,hx,rfl⟩ hlt;have hc:=hv.cell;obtain⟨x0,x1,x2,x3,x4⟩:=cell_five hx;have HX:Hid (W'.heap[Bx]?=some (.cells (lnCells x).toArray 201 (0,0))):=hx;have hBs:=hB.size;clear hx;gi_wp2_with(gi_at_builtin;refine wpListIn_append_own _ rfl _ _ 198 rfl W.heap.size 201 i0 (.agg #[.string ⟨#[]⟩,Iq 0,Iq 0,Iq 0,Iq 0]) 5 48 underlying198 hi hz0 hz1 hz2 rfl (by decide) _ _ _ rfl (hrow.alloc _) ⟨W'.heap.size,0,none⟩ 1 1 (lnCells x) rfl rfl (new_five _ _ _) (by intro u hu;simp[lnCells]at hu;rcases hu with rfl|rfl|rfl|rfl|rfl<;>rfl) (by unfold maxLen;omega) (by omega) (by simp;omega) ?_;intro v' w1 hown' hgrow _;obtain⟨g',cap',rfl⟩:=ownsRow_succ hown';obtain⟨hv1,hv2,hr2,hk2,hb2⟩:=hv.appended (by decide) hrow hB.size (Nat.le_refl _) hown' hgrow;obtain⟨hkl,hbw2⟩:=keep_app (v':=Sq g' (pre.length+1) cap') (by decide) (by omega) hv hrow hbw hgrow;have hc1:=hv1.cell;have hf1:=hv1.frozen);exact⟨hk2.from _,hkl,⟨⟨_,hv2,by rw[lCells_snoc,List.length_append];exact hr2,trivial⟩,hbw2⟩,hB.trans hb2⟩
 case done=>rintro D ys W' hD rfl ⟨⟨⟨v,hv,hrow,_⟩,hbw⟩,hB⟩ hK;have hc:=hv.cell;gi_wp2;refine⟨by simp,.inl ⟨_,_,rfl,run_takeDeferred hK,?_⟩⟩;exact⟨_,results_tmp rfl _ _ _,v,rfl,ownsRow_putObj hrow _ hK rfl,hB.trans (belowK_b (w:=W) (Nat.le_refl _) W' D _ _ (by omega) hK rfl rfl)⟩
 case stop=>rintro D c pre W' _ _ h _;exact h.elim
end
section
open Go.RowKit Go.Shelf Go.Proofs.Tryz
attribute[local go_sem] Oper.semAt_some
def offR(id:Int)(idf off:Nat->Int):Nat->Int
 |0=>0
 |k+1=>if idf k=id then off k else offR id idf off k
def offI(id:Int)(idf off:Nat->Int)(n:Nat):Int:=if id=0 then 0 else offR id idf off n
def revN(n:Nat):List Nat:=(List.range n).reverse
theorem revN_succ(n:Nat):revN (n+1)=n::revN n:=by unfold revN;rw[List.range_succ,List.reverse_append];rfl
theorem off_stop(id:Int)(idf off:Nat->Int):∀(n k:Nat) (pre:List Nat),pre++revN k=revN n->k≤n->(∀i∈pre,idf i≠id)->offR id idf off n=offR id idf off k
  | 0, k, pre, h, hk, _ => by obtain rfl:k=0:=by omega
                              rfl
  |n+1,k,pre,h,hk,hp=>by
    by_cases e:k=n+1;·rw[e]
    ·rw[revN_succ]at h;cases pre with
      |nil=>have:=congrArg List.length h;simp[revN]at this;omega
      |cons a pre=>rw[List.cons_append]at h;injection h with h1 h2;have ha:=hp a (by simp);rw[h1]at ha;have hu:offR id idf off (n+1)=offR id idf off n:=if_neg ha;rw[hu];exact off_stop id idf off n k pre h2 (by omega) (fun i hi=>hp i (by simp[hi]))
def Scr(W:World)(p:Option Addr)(n:Nat)(idf off:Nat->Int):Prop:=n=0∨∃b o,p=some ⟨b,o,none⟩∧b<W.heap.size∧∀j,j<n->W.cell? ⟨b,o+j*2,none⟩=some (Iq (idf j))∧W.cell? ⟨b,o+j*2+1,none⟩=some (Iq (off j))
def KeepO(Bx:Nat)(p:Option Addr)(W W':World):Prop:=W'.heap[Bx]?=W.heap[Bx]?∧∀a:Addr,p=some a->W'.heap[a.block]?=W.heap[a.block]?
theorem KeepO.trans{Bx:Nat}{p:Option Addr}{A B C:World}(h:KeepO Bx p A B)(k:KeepO Bx p B C):KeepO Bx p A C:=⟨k.1.trans h.1,fun a e=>(k.2 a e).trans (h.2 a e)⟩
theorem Scr.keep{W W':World}{Bx:Nat}{p:Option Addr}{n:Nat}{idf off:Nat->Int}(h:Scr W p n idf off)(hk:KeepO Bx p W W'):Scr W' p n idf off:=by
 rcases h with h|⟨b,o,e,h1,h2⟩;·exact .inl h
 ·have hb:W'.heap[b]?=W.heap[b]?:=hk.2 _ e;refine .inr ⟨b,o,e,?_,fun j hj=>⟨(World.cell?_of_block (a:=⟨b,o+j*2,none⟩) hb).trans (h2 j hj).1,(World.cell?_of_block (a:=⟨b,o+j*2+1,none⟩) hb).trans (h2 j hj).2⟩⟩;by_cases q:b<W'.heap.size;·exact q
  ·rw[Array.getElem?_eq_none (Nat.le_of_not_lt q),Array.getElem?_eq_getElem h1]at hb;cases hb
theorem Scr.below{W W':World}{p:Option Addr}{n:Nat}{idf off:Nat->Int}(h:Scr W p n idf off)(hb:Below W.heap.size W W'):Scr W' p n idf off:=by
 rcases h with h|⟨b,o,e,h1,h2⟩;·exact .inl h
 ·exact .inr ⟨b,o,e,Nat.lt_of_lt_of_le h1 hb.size,fun j hj=>⟨(hb.cell (p:=⟨b,_,none⟩) h1).trans (h2 j hj).1,(hb.cell (p:=⟨b,_,none⟩) h1).trans (h2 j hj).2⟩⟩
def scV(idf off:Nat->Int)(i:Nat):Array Value:=#[Iq (i:Int),.agg #[Iq (idf i),Iq (off i)]]
theorem backward1_in(n:Nat)(hn:3≤n)(Bx N c:Nat)(p:Option Addr)(idf off:Nat->Int)(hN:N≤4611686018427387904)(W0:World)(hs:Scr W0 p N idf off)(hx:W0.heap[Bx]?=some (.cells #[.slice p N c] 28 (0,0))):
 SeqStopsK Fence.wide n prog 160 #[Pq Bx] (scV idf off) (KeepO Bx p) (fun xs=>xs=revN N) (fun pre=>∃k,k≤N∧pre++revN k=revN N) N W0:=by
 intro k0 J Jx W hW hJ hJx hY h0;have hx1:=(hW.block Bx (Array.getElem?_eq_some_iff.1 hx).1).trans hx;have cx:W.cell? ⟨Bx,0,none⟩=some (.slice p N c):=by simp[World.cell?,hx1]
 have HX1:Hid (W.heap[Bx]?=some (.cells #[.slice p N c] 28 (0,0))∧Scr W p N idf off):=⟨hx1,hs.below hW⟩;have HY:=qH<|hY;have HJ0:=qH<|h0;refine callsIn_of_wp func160 rfl trivial ?_ rfl;simp only[ntmps160,List.size_toArray,List.length_cons,List.length_nil,Nat.reduceAdd,Nat.reduceSub,Array.replicate_succ,Array.replicate_zero,List.push_toArray,List.append_toArray,List.nil_append,List.cons_append];gi_wp2;gi_loopw[3] (fun iv wr=>∃(k:Nat) (pre:List Nat),k≤N∧iv=Iq ((k:Int)-1)∧Hid (pre++revN k=revN N)∧Hid (wr.heap[Bx]?=some (.cells #[.slice p N c] 28 (0,0))∧Scr wr p N idf off)∧Hid (J pre wr)) (fun iv _=>(intOf iv+1).toNat);case atStart=>exact⟨N,[],Nat.le_refl _,by go_num,rfl,HX1,HJ0⟩
 case round=>
  obtain⟨k,pre,hk,rfl,hpre,HX,HJs⟩:=hrel;cases k with
  |zero=>gi_wp2;go_end0;exact⟨⟨_,rfl⟩,.inl ⟨_,by have:=hpre.out;simpa[revN]using this,HJs⟩⟩
  |succ i=>
   have ei:((i+1:Nat):Int)-1=(i:Int):=by omega
   rw[ei];have hpl:pre.length<N:=by have h1:=congrArg List.length hpre;rw[List.length_append]at h1;simp[revN]at h1;omega
   have cx:wr.cell? ⟨Bx,0,none⟩=some (.slice p N c):=by simp[World.cell?,HX.1]
   obtain⟨b,o,rfl,hbl,hcs⟩:=HX.2.resolve_left (by omega);have c0:=(hcs i (by omega)).1;have c1:=(hcs i (by omega)).2;obtain⟨fn,tmps,assign,body,hy,hR⟩:=HY pre i wr HJs hpl;dsimp only[scV]at hy;have HR:=qH<|hR;have HPR:Hid ((pre++[i])++revN i=revN N):=by show _=_;rw[<-hpre.out,revN_succ];simp
   gi_wp2;refine⟨fun _=>by omega,HR.mono ?_⟩;rintro e W3 (⟨rfl,hJ3,hk3⟩|⟨rfl,hJx3⟩)
   ·have HX3:Hid (W3.heap[Bx]?=some (.cells #[.slice (some ⟨b,o,none⟩) N c] 28 (0,0))∧Scr W3 (some ⟨b,o,none⟩) N idf off):=⟨hk3.1.trans HX.1,HX.2.keep hk3⟩;gi_wp2;go_roundw;case rel=>exact⟨i,pre++[i],by omega,by go_num,HPR,HX3,hJ3⟩
    case measure=>simp[intOf]<;>omega
   ·gi_wp2;refine bodyPost_ret (results_none rfl _ _ _) rfl ?_;exact⟨⟨_,rfl⟩,.inr ⟨_,⟨i,by omega,HPR⟩,hJx3⟩⟩
theorem backward_any(p:Option Addr)(N c:Nat)(W:World):
 Calls prog 135 #[.slice p N c] W fun e w'=>e=.returned (.func (.func 160) #[] #[Pq W.heap.size])∧w'=W.alloc (.cells #[.slice p N c] 28):=by go_enter func135,ntmps135;go_wp2;go_ret;exact⟨rfl,rfl⟩
theorem keepO_put{Bx B:Nat}{p:Option Addr}(h0:Bx<B)(h1:∀a:Addr,p=some a->a.block<B)(W:World)(l:Nat)(o o':Obj)(hl:B≤l)(_:W.heap[l]?=some o)(_:o.isCells=false)(_:o.isWalk=false):KeepO Bx p W (W.putObj l o'):=
 ⟨World.putObj_heap_other (by omega),fun a e=>World.putObj_heap_other (by have:=h1 a e;omega)⟩
theorem cell_two{W:World}{B:Nat}{x y:Value}{t:TypeId}(h:W.heap[B]?=some (.cells #[x,y] t (0,0))):W.cell? ⟨B,0,none⟩=some x∧W.cell? ⟨B,1,none⟩=some y:=by simp[World.cell?,h]
theorem offset_any(id:Int)(p:Option Addr)(N c:Nat)(idf off:Nat->Int)(U:World)(hs:Scr U p N idf off)(hN:N≤4611686018427387904)(hp:∀a:Addr,p=some a->a.block<U.heap.size):
 Calls prog 82 #[Iq id,.slice p N c] U fun e U'=>e=.returned (Iq (offI id idf off N))∧Below U.heap.size U U':=by
 by_cases h0:id=0;·subst h0;have HR:Hid (offI 0 idf off N=0):=if_pos rfl;have HB:Hid (Below U.heap.size U ((U.alloc (.cells #[Iq 0] 3)).alloc (.cells #[Iq 0] 3))):=((Below.refl _ U).alloc (Nat.le_refl _) _).alloc (by simp) _;go_enter func82,ntmps82;go_wp2;refine bodyPost_ret (v:=Iq 0) (by simp[results,Tryz.results82,go_sem]) rfl ⟨by rw[HR.out],HB⟩
 ·have HR:Hid (offI id idf off N=offR id idf off N):=if_neg h0;refine(callsIn_wide (n:=6)).1 ?_;refine callsIn_of_wp_marks func82 rfl trivial ?_ rfl;simp only[ntmps82,List.size_toArray,List.length_cons,List.length_nil,Nat.reduceAdd,Nat.reduceSub,Array.replicate_succ,Array.replicate_zero,List.push_toArray,List.append_toArray,List.nil_append,List.cons_append];gi_wp2_with fail;refine⟨trivial,(callsIn_wide.2 (backward_any p N c _)).mono ?_⟩;rintro e w' ⟨rfl,rfl⟩;obtain⟨S,hS⟩:=nmd U.heap.size;obtain⟨W0,hW0⟩:=nmd (((U.alloc (.cells #[Iq id] 3)).alloc (.cells #[Iq 0] 3)).alloc (.cells #[.slice p N c] 28));have bI:Boxed W0 S 3 (Iq id):=by rw[<-hW0,<-hS];exact((Boxed.new U 3 (Iq id)).alloc _).alloc _
  have bR:Boxed W0 (S+1) 3 (Iq 0):=by rw[<-hW0,<-hS];have:=Boxed.new (U.alloc (.cells #[Iq id] 3)) 3 (Iq 0);rw[World.size_alloc]at this;exact this.alloc _
  have bX:Boxed W0 (S+2) 28 (.slice p N c):=by rw[<-hW0,<-hS];have:=Boxed.new ((U.alloc (.cells #[Iq id] 3)).alloc (.cells #[Iq 0] 3)) 28 (.slice p N c);rw[World.size_alloc,World.size_alloc]at this;exact this
  have hB0:Below S U W0:=by rw[<-hW0,<-hS];exact(((Below.refl _ U).alloc (Nat.le_refl _) _).alloc (by simp) _).alloc (by simp;omega) _
  have hsz:W0.heap.size=S+3:=by rw[<-hW0];simp;omega
  have hsc:=hs.below (by rw[hS];exact hB0);have hp0:∀a:Addr,p=some a->a.block<S:=fun a e=>by rw[<-hS];exact hp a e
  rw[World.size_alloc,World.size_alloc,hW0];gi_wp2;refine wpIn_rangeFunc_ownH rfl (by omega) (gf:=160) (lb:=#[Pq (S+1+1)]) rfl trivial (enters_of func160 (by kernel_rfl) rfl)
   (backward1_in 5 (by omega) (S+1+1) N c p idf off hN W0 hsc bX) KeepO.trans (keepO_put (by omega) (fun a e=>by have:=hp0 a e;omega)) (Below.refl _ _) (fun _=>rfl)
   (fun pre W'=>(((Boxed W' S 3 (Iq id)∧Boxed W' (S+1) 3 (Iq 0))∧Boxed W' (S+1+1) 28 (.slice p N c))∧Below S U W')∧∀i∈pre,idf i≠id)
   (fun cd pre W'=>∃pr x,pre=pr++[x]∧idf x=id∧(∀i∈pr,idf i≠id)∧Boxed W' (S+1) 3 (Iq (off x))∧Below S U W'∧cd=.ret)
   (OwnFrom.and (OwnFrom.and (OwnFrom.and (OwnFrom.and (Own.from (boxed_own S 3 (fun _:List Nat=>Iq id)) _) (Own.from (boxed_own (S+1) 3 (fun _:List Nat=>Iq 0)) _)) (Own.from (boxed_own (S+1+1) 28 (fun _:List Nat=>Value.slice p N c)) _)) (ownFrom_below (by omega) (by omega))) (fun _ _ _ _ h _ _=>h))
   (fun cd pre A B row ⟨pr,x,e1,e2,e3,hb,hB,hc⟩ hg hr=>⟨pr,x,e1,e2,e3,(Own.from (boxed_own (S+1) 3 (fun _:Unit=>Iq (off x))) W0.heap.size) () A B row hb hg hr,(ownFrom_below (β:=Unit) (n₀:=S) (w₀:=U) (by omega) (by omega)) () A B row hB hg hr,hc⟩)
   ⟨⟨⟨⟨bI,bR⟩,bX⟩,hB0⟩,fun i hi=>by cases hi⟩
   (fun x a' W'=>∃Bx,W'.heap[Bx]?=some (.cells #[Iq (idf x),Iq (off x)] 68 (0,0))∧a'={tmps:=#[Iq id,.slice p N c,Pq S,undef,Pq (S+1),undef,Pq Bx,Iq id,.bool false,.slice p N c,.func (.func 160) #[] #[Pq (S+1+1)],Iq (x:Int),.agg #[Iq (idf x),Iq (off x)],undef,undef,undef,undef,undef,undef],defers:=[]})
   ?hAx ?assign ?body ?done ?stop;case hAx=>rintro x a' _ A B row ⟨Bx,h2,h3⟩ hg hr;refine⟨Bx,(hg.block Bx (Array.getElem?_eq_some_iff.1 h2).1 (fun e=>?_)).trans h2,h3⟩;obtain⟨_,o,ho,hc⟩:=hr Bx e.symm;rw[h2]at ho;cases ho;cases hc
  case assign=>rintro k0 pre x W' K ⟨⟨⟨⟨h1,h2⟩,h3⟩,hB⟩,h4⟩ hK;dsimp only[scV]at hK⊢;have hkp:∀o,KeepO (S+1+1) p W' (W'.alloc o):=fun o=>⟨Below.heap_alloc _ _ _ h3.lt,fun a e=>Below.heap_alloc _ _ _ (by have:=hp0 a e;have:=h1.lt;omega)⟩;gi_wp2;exact hK _ _ ((KeepsOthers.alloc _ _).from _) (hkp _) ⟨⟨⟨⟨h1.alloc _,h2.alloc _⟩,h3.alloc _⟩,hB.alloc (by have:=h1.lt;omega) _⟩,h4⟩ ⟨W'.heap.size,heap_alloc_new _ _,rfl⟩
  case body=>
   rintro k0 pre x a' W' hlk ⟨r,hr⟩ ⟨⟨⟨⟨h1,h2⟩,h3⟩,hB⟩,h4⟩ ⟨Bx,hx,rfl⟩ hlt;have c1:=h1.cell;have c2:=h2.cell;have f2:=h2.frozen;obtain⟨x0,x1⟩:=cell_two hx;by_cases hid:idf x=id;·have HE:Hid (Boxed (W'.setCell ⟨S+1,0,none⟩ (Iq (off x))) (S+1) 3 (Iq (off x))∧Below S U (W'.setCell ⟨S+1,0,none⟩ (Iq (off x)))):=⟨h2.set _,hB.setCell (p:=⟨S+1,0,none⟩) (by show S≤S+1;omega) _⟩;rw[hid]at x0;gi_wp2;exact⟨(KeepsOthers.setCell _ _ _).from _,pre,x,rfl,hid,h4,HE.1,HE.2,rfl⟩
   ·have e1:(idf x==id)=false:=by simpa using hid
    gi_wp2;exact⟨(KeepsOthers.refl _).from _,⟨rfl,fun _ _=>rfl⟩,⟨⟨⟨h1,h2⟩,h3⟩,hB⟩,fun i hi=>by
     rcases List.mem_append.1 hi with q|q;·exact h4 i q
     ·rw[List.mem_singleton.1 q];exact hid⟩
  case done=>
   rintro D ys W' hD rfl ⟨⟨⟨⟨h1,h2⟩,h3⟩,hB⟩,h4⟩ hK;have c2:=h2.cell;have f2:=h2.frozen;have HRE:Hid (offI id idf off N=0):=by show _=_;rw[HR.out,off_stop id idf off N 0 (revN N) (by simp[revN]) (Nat.zero_le _) h4];rfl
   have hK2:(W'.setCell ⟨S+1,0,none⟩ (Iq 0)).heap[D]?=some (.deferred (some [])):=(Below.heap_setCell W' ⟨S+1,0,none⟩ _ D (by show D≠S+1;omega)).trans hK;have hbx:=(h2.set (Iq 0)).kept (grownBy_putObj' _ D (.deferred none)) (by simp;omega);have hcr:=hbx.cell;have HBE:Hid (Below S U ((W'.setCell ⟨S+1,0,none⟩ (Iq 0)).putObj D (.deferred none))):=(hB.setCell (p:=⟨S+1,0,none⟩) (by show S≤S+1;omega) _).trans (belowK_b (w:=U) (by omega) _ D _ _ (by omega) hK2 rfl rfl);gi_wp2;refine⟨by simp,.inl ⟨_,_,rfl,run_takeDeferred hK2,?_⟩⟩;exact⟨Iq 0,by simp[results,Tryz.results82,go_sem,hcr],by rw[HRE.out],by rw[hS];exact HBE⟩
  case stop=>
   rintro D cd pre W' hD ⟨k,hk,hpre⟩ ⟨pr,x,e1,e2,e3,hb,hB,rfl⟩ hK;have HRE:Hid (offI id idf off N=off x):=by
    show _=_;have hq:pr++revN (k+1)=revN N:=by
     have:=hpre;rw[e1]at this;have hx:x=k:=by
      have h9:∀(n:Nat) (pr:List Nat) (x k:Nat),(pr++[x])++revN k=revN n->x=k:=by
       intro n;induction n with
       |zero=>intro pr x k h;simp[revN]at h
       |succ n ih=>
        intro pr x k h;rw[revN_succ]at h;cases pr with
        |nil=>simp at h;have:=congrArg List.length h.2;simp[revN]at this;omega
        |cons a pr=>rw[List.cons_append,List.cons_append]at h;injection h with _ h;exact ih pr x k h
      exact h9 N pr x k this
     rw[revN_succ,<-hx];rw[<-hx]at this;simpa using this
    have hkN:k+1≤N:=by have:=congrArg List.length hq;simp[revN]at this;omega
    have hxk:x=k:=by
     have h1:=hpre;rw[e1]at h1;have h2:pr++(x::revN k)=pr++(k::revN k):=by rw[revN_succ]at hq;rw[hq,<-h1];simp
     have:=List.append_cancel_left h2;injection this
    rw[HR.out,off_stop id idf off N (k+1) pr hq hkN e3];show(if idf k=id then off k else offR id idf off k)=off x;rw[<-hxk,if_pos e2]
   have hbx:=hb.kept (grownBy_putObj' W' D (.deferred none)) (by simp;omega);have hcr:=hbx.cell;gi_wp2;refine⟨by simp,.inl ⟨_,_,rfl,run_takeDeferred hK,?_⟩⟩;exact⟨Iq (off x),by simp[results,Tryz.results82,go_sem,hcr],by rw[HRE.out],by rw[hS];exact hB.trans (belowK_b (w:=U) (by omega) W' D _ _ (by omega) hK rfl rfl)⟩
end
end Go.Proofs.YtmbefonnkkhfgaaGreatDoor
