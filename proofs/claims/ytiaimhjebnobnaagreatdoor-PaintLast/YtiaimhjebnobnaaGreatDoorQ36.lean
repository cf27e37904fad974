import Derived.Test.YtiaimhjebnobnaaGreatDoorQ00
import Derived.RangeFuncNested
import Derived.RangeFuncBound
import Derived.Shelf.Abstract
import Derived.Shelf.RegionOpen
import Derived.WalkKit
import Derived.OwnWalkIn
import Derived.LoopNIn
import Derived.LoopIn
import Derived.Sort.CutIn
import Derived.Test.YtiaimhjebnobnaaGreatDoorQ33
import Derived.Test.YtiaimhjebnobnaaGreatDoorQ01
set_option linter.all false
set_option maxRecDepth 100000
set_option maxHeartbeats 16000000
namespace Go.Proofs.YtiaimhjebnobnaaGreatDoor
open Go.RowKit Go.Proofs.Tryz
section
open Go.Shelf
attribute[local go_sem] Oper.semAt_some
def kI(Bw:Nat)(W W':World):Prop:=(∀(k:Nat) (c:Array Value) (fz:Nat×Nat),W.heap[k]?=some (.cells c 227 fz)->W'.heap[k]?=some (.cells c 227 fz))/\W'.heap[Bw]?=W.heap[Bw]?
theorem kI.trans{Bw}{A B C}(h:kI Bw A B)(k:kI Bw B C):kI Bw A C:=⟨fun i c fz e=>k.1 i c fz (h.1 i c fz e),k.2.trans h.2⟩
theorem keepL_row{Bw}{W W'}(h:kI Bw W W'){B n}{v}{xs}(ho:W.ownsRow B 227 2 v n xs):W'.ownsRow B 227 2 v n xs:=by refine⟨ho.1,ho.2.imp id ?_⟩;rintro⟨g,cap,ik,e1,e2,e3,e4⟩;exact⟨g,cap,ik,e1,e2,h.1 g ik _ e3,e4⟩
theorem mz{W W'}(h:Bt W W'):W.grownBy W' none:=⟨h.os,h.tape,h.output,h.size,fun k hk _=>h.block k hk⟩
theorem D9{w}{B}{v}{l}(h:w.ownsRow B 227 2 v l.length (eE l)):pG w v l:=(pO h).clsC
theorem G8{w w'}{B n}{e}{v}{xs}(h:w.ownsRow B e 2 v n xs)(hb:Bt w w'):w'.ownsRow B e 2 v n xs:=by refine⟨h.1,h.2.imp id ?_⟩;rintro⟨g,cap,ik,e1,e2,e3,e4⟩;exact⟨g,cap,ik,e1,e2,(hb.block g (aM.1 e3).1).trans e3,e4⟩
theorem Od{w}{b off cap a n}{l:List (List UInt8×Int)}(hn:a+n<=l.length)(kB:l.length<=cap)(oh:cap<=maxLen)(hb:b<w.heap.size)(hc:∀j (hj:j<l.length),w.cell? (az b (off+j*2))=some (.string ⟨(l[j]).1.toArray⟩)/\w.cell? (az b (off+j*2+1))=some (Iq (l[j]).2)):
 pG w (.slice (if cap=a then some (az b off)else some (az b (off+a*2))) n (cap-a)) ((l.drop a).take n):=by
 have hl:((l.drop a).take n).length=n:=by rw[cX,dq];omega
 refine⟨_,_,by rw[hl],by rw[hl];omega,by omega,?_⟩;by_cases e:cap=a;·grind
 ·right;rw[if_neg e];grind
def lnV(x:Ln):Array Value:=#[.agg #[.string ⟨x.T.toArray⟩,Iq x.W,Iq x.F,Iq x.N,Iq x.E]]
theorem Ot(n:Nat)(hn:3<=n)(k0 Bw Bs:Nat)(s:ByteArray)(w:Int)(l:List (List UInt8×Int))(hl:a_ (aD s.data.toList)=l)(hs:s.size<=68719476736)(hw0:-9223372036854775808<=w)(eQ:w<=9223372036854775807)(J Jx:List Ln->World->Prop)(W:World)
    (hJ:AbidesFrom W.heap.size J)
    (hY:∀pre x W1,J pre W1->pre.length<l.length+1->YieldAt Fence.wide (n-1) prog k0 (lnV x) W1 fun e W'=>
      (e=Rw (.bool true)/\J (pre++[x]) W'/\kI Bw W1 W')\/(e=Rw (.bool false)/\Jx (pre++[x]) W'))
    (ht:∀W',Bt W W'->cG W')
    (hBw:W.heap[Bw]?=some (.cells #[Iq w] 3 (0,0))) (T8:W.heap[Bs]?=some (.cells #[.string s] 9 (0,0))) (h0:J [] W):
    CallsIn Fence.wide n prog 217 #[.func (.yield k0) #[] #[],Pq Bw,Pq Bs] W fun e W'=>(∃v,e=Rw v)/\
      ((∃ys,ys=bC l w/\J ys W')\/(∃pre,True/\Jx pre W')):=by
  have lq:s.data.toList.length=s.size:=by rw[fV];rfl
  have hR:=bK s.data.toList;have hC:=cE (aD s.data.toList);have hbd:=dO (aD s.data.toList);have hsh:=lB (aD s.data.toList);rw[lq]at hR;rw[hl]at hC hbd hsh;have cw:W.cell? (az Bw 0)=some (Iq w):=by simp[World.cell?,hBw]
  have cs:W.cell? (az Bs 0)=some (.string s):=by simp[World.cell?,T8]
  have HBw:=qH<|hBw;have iM:=qH<|hbd;have HSH:=qH<|hsh;have HL:=qH<|hl;have HT:=qH<|ht;have HJ:=qH<|hJ;have HY:=qH<|hY;clear hBw T8 hbd hsh hl ht hJ hY lq;refine callsIn_of_wp func217 rfl trivial ?_ rfl;simp only[ntmps217,lp,e_,iA,Nat.reduceAdd,Nat.reduceSub,tf,tg,th,ti,tj,oK];by_cases hlt:w<1
  · have HE:Hid (bC l w=[]):=by show _=_;rw[bC,if_pos hlt]
    gi_wp2;refine bodyPost_ret (results_none rfl _ _ _) rfl ?_;exact⟨⟨_,rfl⟩,.inl ⟨[],HE.symm,h0⟩⟩
  have HE:Hid (bC l w=dE l w 0):=by show _=_;rw[bC,if_neg hlt]
  have UH:1<=w:=by omega
  have G:Hid (Cw 151 #[.string s] W fun e w'=>∃v,e=Rw v/\w'.ownsRow W.heap.size 227 2 v l.length (eE l)/\Bt W w'):=by have :=iO s W (HT W (aj _ _)) (by omega);rw[HL.out]at this;exact this
  gi_wp2_with fail;refine⟨trivial,fun _=>by omega,(callsIn_wide.2 G).mono ?_⟩;rintro e w1 ⟨v1,rfl,o1,b1⟩;have HO1:=qH<|o1;have j1:=HJ.out [] W w1 none h0 (mz b1) (fun r e=>by cases e);have zhe:=(aM.1 HBw).1;have zdH:=qH<|(b1.block Bw zhe).trans HBw;have hs1:=b1.size;obtain⟨a1,cap,rfl,kB,oh,_7⟩:=D9 o1;clear G HBw cw cs o1 _7;gi_wp2;gi_loopw[5] (fun p wr=>∃(a:Nat) (pre:List Ln),p=Iq a/\a<=l.length/\Hid (pre++dE l w a=dE l w 0)/\Hid (wr.ownsRow W.heap.size 227 2 (.slice a1 l.length cap) l.length (eE l))/\Hid (wr.heap[Bw]?=some (.cells #[Iq w] 3 (0,0)))/\J pre wr) (fun p _=>l.length-(intOf p).toNat);case atStart=>exact⟨0,[],rfl,aZ _,rfl,HO1,zdH,j1⟩
  case round=>
    obtain⟨a,pre,rfl,ha,je,bu,hbw,hJs⟩:=hrel;have cw:wr.cell? (az Bw 0)=some (Iq w):=by have :=hbw.out;simp[World.cell?,this]
    have YI:=(aM.1 hbw).1;clear j1 HO1 zdH b1;have pB:(l=[]/\a1=none/\cap=0)\/∃b,a1=some (az b 0):=by
      rcases bu.2 with⟨e1,e2⟩|⟨g,cp,ik,e1,_⟩;·grind
      ·grind
    have tC:(a:Int)<=(l.length:Int):=by omega
    have O_:(l.length:Int)<=(cap:Int):=by omega
    rcases pB with⟨e1,rfl,rfl⟩|⟨b,rfl⟩
    · have qT:prog.follows .mixedOrders=true:=by kernel_rfl
      have hl0:l.length=0:=by rw[e1];rfl
      obtain rfl:a=0:=by omega
      have hLn:c_ l w 0=⟨[],0,0,0,3⟩:=by
        rw[e1];have h1:¬w<0:=by omega
        simp[c_,aU,dy,aJ,ap,h1]
      have Tc:=qH<|hLn;have HF:Hid (bC l w=pre++[c_ l w 0]):=by show _=_;rw[HE.out,<-je.out,lD (aZ _) (by rw[hLn])]
      have BI:pre.length<l.length+1:=by have :=congrArg List.length je;have h2:=(fe l w 0 (aZ _)).1;rw[bm]at this;omega
      have Gh:∀w',pG w' (.slice none 0 0) []:=fun w'=>⟨none,0,rfl,ai _,aZ _,.inl rfl⟩;have FG:Hid (Cw 218 #[.slice none 0 0,Iq w] wr.drew fun e w'=>e=Rw (.tuple #[Iq 0,Iq 0,Iq 3])/\Bt wr w'):=by refine(ox [] _ w wr.drew (Gh _) (by simp) (by simp) UH eQ).mono ?_;rintro e w2 ⟨rfl,b2⟩;exact⟨by simp[aU,dy],((aj wr.heap.size wr).drew).trans b2⟩
      have XZ:Hid (∀w',Cw 219 #[.slice none 0 0,Iq w] w' fun e w2=>e=Rw (.agg #[.string ⟨#[]⟩,Iq 0,Iq 0,Iq 0,Iq 0])/\Bt w' w2):=by
        intro w';refine(vD [] _ w w' (Gh w').cls (by simp) (by simp) (by simp[aJ]) UH (fun h=>by grind[ap])).mono ?_;rintro e w2 ⟨rfl,b2⟩;refine⟨?_,b2⟩;have h1:¬w<0:=by omega
        simp[sI,P5,aJ,ap,h1]
      rw[hl0];clear hLn Gh;gi_wp2_with fail;gi_cut[6,7,8]from 14 (fun x y z wx=>x=Iq 0/\y=Iq 0/\z=Iq 3/\Bt wr wx);case first=>
        gi_region_with_o(refine⟨trivial,fun _=>by omega,(callsIn_wide.2 FG).mono ?_⟩;rintro e wq ⟨rfl,bq⟩);all_goals(gi_wp2_with fail)
        all_goals(gi_meet)
        grind
      case rest=>
        obtain⟨rfl,rfl,rfl,bx⟩:=hcut;have Gv:=bx.size;have cwx:=(bx.cell (p:=(az Bw 0)) YI).trans cw;have zhd:Bw<wc.heap.size:=by omega
        have zhf:¬Bw=wc.heap.size:=by omega
        clear cw FG;gi_wp2_with fail;gi_cut[9]from 14 (fun p wx=>∃B,p=Pq B/\wr.heap.size<=B/\wx.heap[B]?=some (.cells #[.string ⟨#[]⟩,Iq 0,Iq 0,Iq 0,Iq 0] 231 (0,0))/\Bt wr wx);case first=>
          have XY:Hid (∀w',(w'=wc.drew\/w'=(wc.alloc (.cells #[.string ⟨#[]⟩,Iq 0,Iq 0,Iq 0,Iq 0] 231)).drew)->Cw 219 #[.slice none 0 0,Iq w] w' fun e w2=>e=Rw (.agg #[.string ⟨#[]⟩,Iq 0,Iq 0,Iq 0,Iq 0])/\Bt wr w2/\
              (w'=(wc.alloc (.cells #[.string ⟨#[]⟩,Iq 0,Iq 0,Iq 0,Iq 0] 231)).drew->wc.heap.size<w2.heap.size/\w2.heap[wc.heap.size]?=some (.cells #[.string ⟨#[]⟩,Iq 0,Iq 0,Iq 0,Iq 0] 231 (0,0)))):=by
            intro w' vs;have KY:Bt wr w':=by
              rcases vs with rfl|rfl;·exact bx.drew
              ·exact(bx.alloc Gv _).drew
            refine(XZ w').mono ?_;rintro e w2 ⟨rfl,b2⟩;refine⟨rfl,KY.trans (b2.mono KY.size),?_⟩;rintro rfl;have xG:wc.heap.size<(wc.alloc (.cells #[.string ⟨#[]⟩,Iq 0,Iq 0,Iq 0,Iq 0] 231)).drew.heap.size:=by show wc.heap.size<(wc.alloc _).heap.size;rw[aI];omega
            exact⟨zz008 xG b2.size,(b2.block _ xG).trans (heap_alloc_new wc _)⟩
          have HLA:Hid (Cw 219 #[.slice none 0 0,Iq w] wc.drew fun e w2=>e=Rw (.agg #[.string ⟨#[]⟩,Iq 0,Iq 0,Iq 0,Iq 0])/\Bt wr w2):=by refine(XY _ (Or.inl rfl)).mono ?_;rintro e w2 ⟨h1,h2,_⟩;exact⟨h1,h2⟩
          have Tb:Hid (Cw 219 #[.slice none 0 0,Iq w] (wc.alloc (.cells #[.string ⟨#[]⟩,Iq 0,Iq 0,Iq 0,Iq 0] 231)).drew fun e w2=>e=Rw (.agg #[.string ⟨#[]⟩,Iq 0,Iq 0,Iq 0,Iq 0])/\Bt wr w2/\wc.heap.size<w2.heap.size/\w2.heap[wc.heap.size]?=some (.cells #[.string ⟨#[]⟩,Iq 0,Iq 0,Iq 0,Iq 0] 231 (0,0))):=by refine(XY _ (Or.inr rfl)).mono ?_;rintro e w2 ⟨h1,h2,h3⟩;exact⟨h1,h2,(h3 rfl).1,(h3 rfl).2⟩
          clear XZ XY;gi_region_with_o(refine⟨trivial,fun _=>by omega,?_⟩;(first|(refine(callsIn_wide.2 HLA).mono ?_;rintro e wq ⟨rfl,bq⟩)|(refine(callsIn_wide.2 Tb).mono ?_;rintro e wq ⟨rfl,bq,UK,hzr⟩;have q0:wq.cell? (az wc.heap.size 0)=some (.string ⟨#[]⟩):=(by simp[World.cell?,hzr]);have q1:wq.cell? (az wc.heap.size 1)=some (Iq 0):=(by simp[World.cell?,hzr]);have q2:wq.cell? (az wc.heap.size 2)=some (Iq 0):=(by simp[World.cell?,hzr]);have q3:wq.cell? (az wc.heap.size 3)=some (Iq 0):=(by simp[World.cell?,hzr]);have q4:wq.cell? (az wc.heap.size 4)=some (Iq 0):=(by simp[World.cell?,hzr]);have fr:∀j,wq.frozen? (az wc.heap.size j)=false:=(fun j=>frozen_of_row _ _ _ _ _ hzr);have HZR:=qH<|hzr;clear hzr)));all_goals(gi_wp2_with fail)
          all_goals(gi_meet)
          all_goals(first
            |exact⟨_,rfl,bq.size,heap_alloc_new _ _,bq.alloc bq.size _⟩
            |exact⟨_,rfl,Gv,v_ HZR,((((bq.setCell (p:=(az wc.heap.size 0)) Gv _).setCell (p:=(az wc.heap.size 1)) Gv _).setCell (p:=(az wc.heap.size 2)) Gv _).setCell (p:=(az wc.heap.size 3)) Gv _).setCell (p:=(az wc.heap.size 4)) Gv _⟩)
        case rest=>
          obtain⟨B,rfl,hB,hrow,MD⟩:=hcut;have hsy:=MD.size;have q0:wc.cell? (az B 0)=some (.string ⟨#[]⟩):=by simp[World.cell?,hrow]
          have q1:wc.cell? (az B 1)=some (Iq 0):=by simp[World.cell?,hrow]
          have q2:wc.cell? (az B 2)=some (Iq 0):=by simp[World.cell?,hrow]
          have q3:wc.cell? (az B 3)=some (Iq 0):=by simp[World.cell?,hrow]
          have q4:wc.cell? (az B 4)=some (Iq 0):=by simp[World.cell?,hrow]
          have fr:∀j,wc.frozen? (az B j)=false:=fun j=>frozen_of_row _ _ _ _ _ hrow;have bz:Bt wr ((wc.setCell (az B 2) (Iq 0)).setCell (az B 4) (Iq 3)):=(MD.setCell (p:=(az B 2)) hB _).setCell (p:=(az B 4)) hB _;have jz:=HJ pre wr _ none hJs (mz bz) (fun r e=>by cases e);obtain⟨fn,tmps,assign,body,hy,hR⟩:=HY pre (c_ l w 0) _ jz BI;rw[Tc.out]at hy;change(Instr.yield k0 #[.agg #[.string ⟨#[]⟩,Iq 0,Iq 0,Iq 0,Iq 3]]).run prog _=_ at hy;have HR:=qH<|hR;clear hrow cwx hR jz;gi_wp2;refine⟨fun _=>by omega,HR.mono ?_⟩;clear HR hy;rintro e W3 (⟨rfl,Ss,xF⟩|⟨rfl,OL⟩);·gi_wp2;refine bodyPost_ret (results_none rfl _ _ _) rfl ?_;exact⟨⟨_,rfl⟩,.inl ⟨_,HF.symm,Ss⟩⟩
          ·gi_wp2;refine bodyPost_ret (results_none rfl _ _ _) rfl ?_;exact⟨⟨_,rfl⟩,.inr ⟨_,trivial,OL⟩⟩
    · have qT:prog.follows .mixedOrders=true:=by kernel_rfl
      have hle:=yt (l.drop a) w;rw[dq]at hle;have HX:Hid (dE l w a=if(c_ l w a).E=3 then[c_ l w a]else c_ l w a::dE l w (qV l w a)):=by
        show _=_;by_cases h:(c_ l w a).E=3;·grind[lD]
        ·grind[mT]
      have _u:=qH<|nxt_lt l w a;have HNX:Hid (qV l w a=a+(aU (l.drop a) w).n+(aU (l.drop a) w).d):=rfl;have hlA:=(fe l w a ha).1;have zpO:=(fe l w 0 (aZ _)).2;have hcl:∀w',Bt wr w'->∀n,a+n<=l.length->pG w' (.slice (if cap=a then some (az b 0)else some (az b (a*2))) n (cap-a)) ((l.drop a).take n):=by
        intro w' hb n hn;obtain⟨a',dD,e1,_,_,hh⟩:=(D9 bu).below hb;cases e1;rcases hh with hh|⟨b',zjc,e2,jF,hc'⟩
        · subst hh;have e0:n=0:=by simp at hn;omega
          subst e0;exact⟨_,_,rfl,by simp,by omega,.inl (by simp)⟩
        ·cases e2;grind[Od]
      have HCL:=qH<|hcl;have hFL:Cw 218 #[.slice (if cap=a then some (az b 0)else some (az b (a*2))) (l.length-a) (cap-a),Iq w] wr.drew fun e w'=>e=Rw (.tuple #[Iq (aU (l.drop a) w).n,Iq (aU (l.drop a) w).d,Iq (aU (l.drop a) w).e])/\Bt wr w':=by have h1:=hcl wr.drew ((aj _ _).drew) (l.length-a) (by omega);rw[gV (by grind)]at h1;refine(ox (l.drop a) _ w wr.drew h1 (fun c hc=>iM c (ku hc)) (by grind) UH eQ).mono ?_;rintro e w2 ⟨rfl,b2⟩;exact⟨rfl,((aj wr.heap.size wr).drew).trans b2⟩
      have XZ:Hid (∀w' v,oM w' v ((l.drop a).take (aU (l.drop a) w).n)->Cw 219 #[v,Iq w] w' fun e w2=>e=Rw (sI ((l.drop a).take (aU (l.drop a) w).n) w)/\Bt w' w2):=by
        intro w' v hv;have hb2:∀c∈(l.drop a).take (aU (l.drop a) w).n,0<=c.2/\c.2<=2:=fun c hc=>iM c (ku (lm hc));have yA:((l.drop a).take (aU (l.drop a) w).n).length<=l.length:=by rw[cX,dq];omega
        have IZ:=kW _ (fun c hc=>HSH c (ku (lm hc)):∀c∈(l.drop a).take (aU (l.drop a) w).n,c.1.length<=20);have oi:=(cJ _ hb2 ((l.drop a).take (aU (l.drop a) w).n).length).2;rw[l5]at oi;exact vD _ v w w' hv hb2 (by omega) (by omega) UH (fun _=>by omega)
      have Fl:Hid (∃(T:List UInt8) (V:Int) (N:Nat),sI ((l.drop a).take (aU (l.drop a) w).n) w=.agg #[.string ⟨T.toArray⟩,Iq V,Iq 0,Iq N,Iq 0]/\c_ l w a=⟨T,V,a,N,(aU (l.drop a) w).e⟩):=by
        by_cases MS:w<ap ((l.drop a).take (aU (l.drop a) w).n);·exact⟨List.replicate w.toNat 32,w,1,by rw[sI,if_pos MS];rfl,by grind[c_]⟩
        ·exact⟨aJ ((l.drop a).take (aU (l.drop a) w).n),ap ((l.drop a).take (aU (l.drop a) w).n),((l.drop a).take (aU (l.drop a) w).n).length,by rw[sI,if_neg MS];rfl,by grind[c_]⟩
      obtain⟨n1,xi⟩:=ag ((aU (l.drop a) w).n);obtain⟨d1,Fu⟩:=ag ((aU (l.drop a) w).d);obtain⟨e1,_3⟩:=ag ((aU (l.drop a) w).e);rw[xi,Fu,_3]at hFL;rw[xi]at XZ;rw[xi,_3]at Fl;rw[xi,Fu]at HNX hle;have FG:=qH<|hFL;obtain⟨pp,hpp⟩:=ag (if cap=a then some ((az b 0):Addr)else some (az b (a*2)));rw[hpp]at FG HCL;clear hFL hcl xi Fu _3;gi_wp2_with fail;gi_cut[6,7,8]from 14 (fun x y z wx=>x=Iq n1/\y=Iq d1/\z=Iq e1/\Bt wr wx);case first=>
        gi_region_with_o(refine⟨trivial,fun _=>by omega,(callsIn_wide.2 FG).mono ?_⟩;rintro e wq ⟨rfl,bq⟩);all_goals(gi_wp2_with fail)
        all_goals(gi_meet)
        grind
      case rest=>
        obtain⟨rfl,rfl,rfl,bx⟩:=hcut;have Gv:=bx.size;have cwx:=(bx.cell (p:=(az Bw 0)) YI).trans cw;have zhd:Bw<wc.heap.size:=by omega
        have zhf:¬Bw=wc.heap.size:=by omega
        clear cw FG;obtain⟨T,V,N,pE,hln⟩:=Fl.out;rw[pE]at XZ;have Tc:=qH<|hln;have hwr:IntKind.i64.wrap ((a:Int)+(n1:Int))=(a:Int)+(n1:Int):=by exact IntWalk.i64_in _ ⟨by omega,by omega⟩
        have tF:(0:Int)<=(a:Int)+(n1:Int):=by omega
        have vq:(a:Int)+(n1:Int)<=(cap:Int):=by omega
        have hq3:((a:Int)+(n1:Int)).toNat=a+n1:=by omega
        clear Fl pE hln;gi_wp2_with fail;gi_cut[9]from 14 (fun p wx=>∃B,p=Pq B/\wr.heap.size<=B/\wx.heap[B]?=some (.cells #[.string ⟨T.toArray⟩,Iq V,Iq 0,Iq N,Iq 0] 231 (0,0))/\Bt wr wx);case first=>
          have XY:Hid (∀w',(w'=wc.drew\/w'=(wc.alloc (.cells #[.string ⟨#[]⟩,Iq 0,Iq 0,Iq 0,Iq 0] 231)).drew)->Cw 219 #[.slice pp n1 (cap-a),Iq w] w' fun e w2=>e=Rw (.agg #[.string ⟨T.toArray⟩,Iq V,Iq 0,Iq N,Iq 0])/\Bt wr w2/\
              (w'=(wc.alloc (.cells #[.string ⟨#[]⟩,Iq 0,Iq 0,Iq 0,Iq 0] 231)).drew->wc.heap.size<w2.heap.size/\w2.heap[wc.heap.size]?=some (.cells #[.string ⟨#[]⟩,Iq 0,Iq 0,Iq 0,Iq 0] 231 (0,0)))):=by
            intro w' vs;have KY:Bt wr w':=by
              rcases vs with rfl|rfl;·exact bx.drew
              ·exact(bx.alloc Gv _).drew
            refine(XZ w' _ (HCL w' KY n1 (by omega)).cls).mono ?_;rintro e w2 ⟨rfl,b2⟩;refine⟨rfl,KY.trans (b2.mono KY.size),?_⟩;rintro rfl;have xG:wc.heap.size<(wc.alloc (.cells #[.string ⟨#[]⟩,Iq 0,Iq 0,Iq 0,Iq 0] 231)).drew.heap.size:=by show wc.heap.size<(wc.alloc _).heap.size;rw[aI];omega
            exact⟨zz008 xG b2.size,(b2.block _ xG).trans (heap_alloc_new wc _)⟩
          have HLA:Hid (Cw 219 #[.slice pp n1 (cap-a),Iq w] wc.drew fun e w2=>e=Rw (.agg #[.string ⟨T.toArray⟩,Iq V,Iq 0,Iq N,Iq 0])/\Bt wr w2):=by refine(XY _ (Or.inl rfl)).mono ?_;rintro e w2 ⟨h1,h2,_⟩;exact⟨h1,h2⟩
          have Tb:Hid (Cw 219 #[.slice pp n1 (cap-a),Iq w] (wc.alloc (.cells #[.string ⟨#[]⟩,Iq 0,Iq 0,Iq 0,Iq 0] 231)).drew fun e w2=>e=Rw (.agg #[.string ⟨T.toArray⟩,Iq V,Iq 0,Iq N,Iq 0])/\Bt wr w2/\wc.heap.size<w2.heap.size/\w2.heap[wc.heap.size]?=some (.cells #[.string ⟨#[]⟩,Iq 0,Iq 0,Iq 0,Iq 0] 231 (0,0))):=by refine(XY _ (Or.inr rfl)).mono ?_;rintro e w2 ⟨h1,h2,h3⟩;exact⟨h1,h2,(h3 rfl).1,(h3 rfl).2⟩
          clear XZ HCL XY;gi_region_with_o(refine⟨trivial,fun _=>by omega,?_⟩;(first|(refine(callsIn_wide.2 HLA).mono ?_;rintro e wq ⟨rfl,bq⟩)|(refine(callsIn_wide.2 Tb).mono ?_;rintro e wq ⟨rfl,bq,UK,hzr⟩;have q0:wq.cell? (az wc.heap.size 0)=some (.string ⟨#[]⟩):=(by simp[World.cell?,hzr]);have q1:wq.cell? (az wc.heap.size 1)=some (Iq 0):=(by simp[World.cell?,hzr]);have q2:wq.cell? (az wc.heap.size 2)=some (Iq 0):=(by simp[World.cell?,hzr]);have q3:wq.cell? (az wc.heap.size 3)=some (Iq 0):=(by simp[World.cell?,hzr]);have q4:wq.cell? (az wc.heap.size 4)=some (Iq 0):=(by simp[World.cell?,hzr]);have fr:∀j,wq.frozen? (az wc.heap.size j)=false:=(fun j=>frozen_of_row _ _ _ _ _ hzr);have HZR:=qH<|hzr;clear hzr)));all_goals(gi_wp2_with fail)
          all_goals(gi_meet)
          all_goals(first
            |exact⟨_,rfl,bq.size,heap_alloc_new _ _,bq.alloc bq.size _⟩
            |exact⟨_,rfl,Gv,v_ HZR,((((bq.setCell (p:=(az wc.heap.size 0)) Gv _).setCell (p:=(az wc.heap.size 1)) Gv _).setCell (p:=(az wc.heap.size 2)) Gv _).setCell (p:=(az wc.heap.size 3)) Gv _).setCell (p:=(az wc.heap.size 4)) Gv _⟩)
        case rest=>
          obtain⟨B,rfl,hB,hrow,MD⟩:=hcut;have hsy:=MD.size;have q0:wc.cell? (az B 0)=some (.string ⟨T.toArray⟩):=by simp[World.cell?,hrow]
          have q1:wc.cell? (az B 1)=some (Iq V):=by simp[World.cell?,hrow]
          have q2:wc.cell? (az B 2)=some (Iq 0):=by simp[World.cell?,hrow]
          have q3:wc.cell? (az B 3)=some (Iq N):=by simp[World.cell?,hrow]
          have q4:wc.cell? (az B 4)=some (Iq 0):=by simp[World.cell?,hrow]
          have fr:∀j,wc.frozen? (az B j)=false:=fun j=>frozen_of_row _ _ _ _ _ hrow;have bz:Bt wr ((wc.setCell (az B 2) (Iq a)).setCell (az B 4) (Iq e1)):=(MD.setCell (p:=(az B 2)) hB _).setCell (p:=(az B 4)) hB _;have jz:=HJ pre wr _ none hJs (mz bz) (fun r e=>by cases e);have BI:pre.length<l.length+1:=by have :=congrArg List.length je;rw[bm]at this;omega
          obtain⟨fn,tmps,assign,body,hy,hR⟩:=HY pre (c_ l w a) _ jz BI;rw[Tc.out]at hy;dsimp only[lnV]at hy;have HR:=qH<|hR;clear hrow cwx hR jz;gi_wp2;refine⟨fun _=>by omega,HR.mono ?_⟩;clear HR hy;rintro e W3 (⟨rfl,Ss,xF⟩|⟨rfl,OL⟩)
          · have sy:=qH<|keepL_row xF (G8 bu bz);have zhI:=qH<|(xF.2.trans (bz.block Bw YI)).trans hbw;have hE:(c_ l w a).E=e1:=by rw[Tc.out]
            by_cases h3:e1=3
            · have HF:Hid (bC l w=pre++[c_ l w a]):=by show _=_;rw[HE.out,<-je.out,HX.out,if_pos (by rw[hE,h3])]
              clear hE;subst h3;gi_wp2;refine bodyPost_ret (results_none rfl _ _ _) rfl ?_;exact⟨⟨_,rfl⟩,.inl ⟨_,HF.symm,Ss⟩⟩
            · have Pe:(c_ l w a).E≠3:=by rw[hE];exact h3
              have Pf:=_u Pe;have HF:Hid ((pre++[c_ l w a])++dE l w (qV l w a)=dE l w 0):=by show _=_;rw[<-je.out,HX.out,if_neg Pe];simp
              have hnx':=HNX.out;have zga:=qH<|hnx';rw[zga.out]at HF Pf;clear hE Pe hnx';gi_wp2;go_roundw;case rel=>exact⟨a+n1+d1,pre++[c_ l w a],by go_num,by omega,HF,sy,zhI,Ss⟩
              case measure=>simp[intOf];omega
          ·gi_wp2;refine bodyPost_ret (results_none rfl _ _ _) rfl ?_;exact⟨⟨_,rfl⟩,.inr ⟨_,trivial,OL⟩⟩
attribute[local go_sem] Oper.semAt_some
theorem yD{Bw B}(hB:Bw<B)  W   l   o o'  (hl:B<=l) (h:W.heap[l]?=some o) (hc:o.isCells=false) (_:o.isWalk=false):kI Bw W (W.putObj l o'):=by have hg:=grownBy_putObj' W l o';have _':=(aM.1 h).1;refine⟨fun k c fz e=>?_,hg.block Bw (by omega) (fun e=>by grind)⟩;refine(hg.block k (aM.1 e).1 (fun e'=>?_)).trans e;cases e';rw[h]at e;cases e;cases hc
theorem uV  n  (hn:3<=n)  Bw Bs   s   w   l  (hl:a_ (aD s.data.toList)=l) (hs:s.size<=68719476736) (hw0:-9223372036854775808<=w) (eQ:w<=9223372036854775807)  W0  (ht:cG W0)
 (hBw:W0.heap[Bw]?=some (.cells #[Iq w] 3 (0,0))) (T8:W0.heap[Bs]?=some (.cells #[.string s] 9 (0,0))):
 SeqStopsK Fence.wide n prog 217 #[Pq Bw,Pq Bs] lnV (kI Bw) (fun ys=>ys=bC l w) (fun _=>True) (l.length+1) W0:=fun k0 J Jx W hW hJ _ hY h0=>
 Ot n hn k0 Bw Bs s w l hl hs hw0 eQ J Jx W hJ hY (fun W' hW'=>(ht.below hW).below hW')
  ((hW.block Bw (aM.1 hBw).1).trans hBw) ((hW.block Bs (aM.1 T8).1).trans T8) h0
theorem Cu(s:ByteArray)(w:Int)(W:World):
 Cw 188 #[.string s,Iq w] W fun e w'=>e=Rw (.func (.func 217) #[] #[Pq (W.heap.size+1),Pq W.heap.size])/\w'=(W.alloc (.cells #[.string s] 9)).alloc (.cells #[Iq w] 3):=by go_enter func188,ntmps188;go_wp2;go_ret;simp_all
theorem PU{W}{B Bw}{v v' x}(bZ:Bw≠B)(hv:Boxed W B 3 v)(hw:Boxed W Bw 3 x):kI Bw W (W.setCell (az B 0) v')/\Boxed (W.setCell (az B 0) v') Bw 3 x:=by
 have hb:=Boxed.other hw bZ v';refine⟨⟨fun j c fz e=>?_,hb.trans hw.symm⟩,hb⟩;have hjB:j≠B:=by rintro rfl;rw[show W.heap[j]?=_ from hv]at e;cases e
 rw[heap_setCell_other _ _ _ _ hjB];exact e
theorem Kr(s:ByteArray)(w:Int)(W:World)(ht:cG W)(hs:s.size<=68719476736)(hw0:-9223372036854775808<=w)(eQ:w<=9223372036854775807):
 Cw 224 #[.string s,Iq w] W fun e W'=>e=Rw (Iq (bC (a_ (aD s.data.toList)) w).length)/\Bt W W':=by
 have lq:s.data.toList.length=s.size:=by rw[fV];rfl
 have hR:=bK s.data.toList;have hC:=cE (aD s.data.toList);rw[lq]at hR;obtain⟨l,hl⟩:=ag (a_ (aD s.data.toList));rw[hl]at hC⊢;refine(callsIn_wide (n:=6)).1 ?_;refine callsIn_of_wp_marks func224 rfl trivial ?_ rfl;simp only[ntmps224,lp,e_,iA,Nat.reduceAdd,Nat.reduceSub,tf,tg,th,ti,tj,oK];gi_wp2_with fail;refine⟨trivial,(callsIn_wide.2 (Cu s w _)).mono ?_⟩;rintro e w' ⟨rfl,rfl⟩;have bO:=Boxed.new W 3 (Iq 0);obtain⟨W0,cK⟩:=ag (((W.alloc (.cells #[Iq 0] 3)).alloc (.cells #[.string s] 9)).alloc (.cells #[Iq w] 3));have bO0:Boxed W0 W.heap.size 3 (Iq 0):=by rw[<-cK];exact(bO.alloc _).alloc _
 have bS0:Boxed W0 (W.heap.size+1) 9 (.string s):=by rw[<-cK];have:=Boxed.new (W.alloc (.cells #[Iq 0] 3)) 9 (.string s);rw[aI]at this;exact this.alloc _
 have bW0:Boxed W0 (W.heap.size+2) 3 (Iq w):=by rw[<-cK];have:=Boxed.new ((W.alloc (.cells #[Iq 0] 3)).alloc (.cells #[.string s] 9)) 3 (Iq w);rw[aI,aI]at this;exact this
 have su:Bt W W0:=by rw[<-cK];exact(((aj _ W).alloc (ai _) _).alloc (by simp) _).alloc (by simp;omega) _
 have f_:W0.heap.size=W.heap.size+3:=by rw[<-cK];simp
 have UE:=ht.below su;rw[aI,cK];gi_wp2;refine wpIn_rangeFunc_ownG rfl (by omega) (gf:=217) (lb:=#[Pq (W.heap.size+2),Pq (W.heap.size+1)]) rfl trivial (enters_of func217 (by kernel_rfl) rfl)
  (uV 5 (by omega) (W.heap.size+2) (W.heap.size+1) s w l hl hs hw0 eQ W0 UE bW0 bS0) kI.trans (yD (by omega)) (aj _ _) (fun _=>rfl)
  (fun pre W'=>(Boxed W' W.heap.size 3 (Iq pre.length)/\Boxed W' (W.heap.size+2) 3 (Iq w))/\Bt W W')
  (fun _ _ _=>False)
  (OwnFrom.and (OwnFrom.and (Own.from (boxed_own W.heap.size 3 (fun pre:List Ln=>Iq (pre.length:Int))) _) (Own.from (boxed_own _ _ _) _)) (ownFrom_below (ai _) (by omega)))
  (fun _ _ _ _ _ hs _ _=>hs)
  ⟨⟨bO0,bW0⟩,su⟩
  (fun x=>{tmps:=#[.string s,Iq w,undef,undef,Iq 0,Pq W.heap.size,.string s,Iq w,.func (.func 217) #[] #[Pq (W.heap.size+2),Pq (W.heap.size+1)],.agg (cP x).toArray,undef,undef,undef],defers:=[]})
  ?assign ?body ?done ?stop;case assign=>rintro k0 ⟨T,V,F,N,E⟩ W' K hK;dsimp only[lnV,cP]at hK⊢;gi_wp2;simpa using hK
 case body=>rintro k0 pre x W' ⟨⟨hv,hbw⟩,hB⟩ hlt;have hc:=hv.cell;have hf:=hv.frozen;have T8:=hB.size;gi_wp2;obtain⟨dj,KZ⟩:=PU (v':=Iq ((pre.length:Int)+1)) (by omega) hv hbw;exact⟨(KeepsOthers.setCell _ _ _).from _,dj,⟨by have:=hv.set (Iq ((pre.length:Int)+1));grind,KZ⟩,hB.setCell (p:=(az W.heap.size 0)) (ai _) _⟩
 case done=>rintro D ys W' hD rfl ⟨⟨hv,hbw⟩,hB⟩ hK;have hc:=hv.cell;gi_wp2;refine⟨by simp,.inl ⟨_,_,rfl,run_takeDeferred hK,?_⟩⟩;exact⟨_,results_tmp rfl _ _ _,rfl,hB.trans (belowK_b (w:=W) (ai _) W' D _ _ (by omega) hK rfl rfl)⟩
 case stop=>rintro D c pre W' _ _ h _;exact h.elim
attribute[local go_sem] Oper.semAt_some
theorem Pz:(prog.info? 231).map (fun i=>(i.zero,i.size,i.bytes))=some (some (.agg #[.string ⟨#[]⟩,Iq 0,Iq 0,Iq 0,Iq 0]),5,48):=by kernel_rfl
theorem Jk{W:World}{n₀ k}{v}{xs}(h:W.ownsRow n₀ 231 5 v k xs){j}{c}{t}{fz}(hj:W.heap[j]?=some (.cells c t fz))(ht:t≠231):some j≠v.ownBlock:=by
 rcases h.2 with⟨rfl,_⟩|⟨g,cap,ik,rfl,_,hg,_⟩;·simp[Value.ownBlock]
 ·intro e;obtain rfl:j=g:=by simpa[Value.ownBlock]using e
  grind
theorem PP{W w1}{n₀ B Bw k}{t}{v v' x}{xs}{tmp}(hte:t≠227)(zhc:Bw≠B)(hv:Boxed W B t v)(hrow:W.ownsRow n₀ 231 5 v k xs)(hw:Boxed W Bw 3 x)(oz:(W.alloc tmp).grownBy w1 v.ownBlock):
 kI Bw W (w1.setCell (az B 0) v')/\Boxed (w1.setCell (az B 0) v') Bw 3 x:=by
 have hb:=Boxed.other ((hw.alloc tmp).kept oz (Jk hrow hw (by decide))) zhc v';refine⟨⟨fun j c fz e=>?_,hb.trans hw.symm⟩,hb⟩;have oe:=(aM.1 e).1;have hjB:j≠B:=by rintro rfl;rw[show W.heap[j]?=_ from hv]at e;cases e;exact hte rfl
 rw[heap_setCell_other _ _ _ _ hjB];exact(oz.block j (by rw[aI];omega) (Jk hrow e (by decide))).trans ((du _ _ _ oe).trans e)
theorem DA{W}{Bw}{x}(h:Boxed W Bw 3 x)  o  :kI Bw W (W.alloc o):=
 ⟨fun k c fz e=>(du _ _ _ (aM.1 e).1).trans e,du _ _ _ h.lt⟩
theorem LC(s:ByteArray)(w:Int)(W:World)(ht:cG W)(hs:s.size<=68719476736)(hw0:-9223372036854775808<=w)(eQ:w<=9223372036854775807):
 Cw 153 #[.string s,Iq w] W fun e W'=>∃v,e=Rw v/\W'.ownsRow W.heap.size 231 5 v (bC (a_ (aD s.data.toList)) w).length (iF (bC (a_ (aD s.data.toList)) w))/\Bt W W':=by
 have lq:s.data.toList.length=s.size:=by rw[fV];rfl
 have hR:=bK s.data.toList;have hC:=cE (aD s.data.toList);rw[lq]at hR;obtain⟨l,hl⟩:=ag (a_ (aD s.data.toList));rw[hl]at hC⊢;obtain⟨i0,hi,eG,fs,gd⟩:=info_parts Pz;refine(callsIn_wide (n:=6)).1 ?_;refine callsIn_of_wp_marks func153 rfl trivial ?_ rfl;simp only[ntmps153,lp,e_,iA,Nat.reduceAdd,Nat.reduceSub,tf,tg,th,ti,tj,oK];gi_wp2_with fail;refine⟨trivial,(callsIn_wide.2 (Cu s w _)).mono ?_⟩;rintro e w' ⟨rfl,rfl⟩;have bO:=Boxed.new W 229 (.slice none 0 0);obtain⟨W0,cK⟩:=ag (((W.alloc (.cells #[.slice none 0 0] 229)).alloc (.cells #[.string s] 9)).alloc (.cells #[Iq w] 3));have bO0:Boxed W0 W.heap.size 229 (.slice none 0 0):=by rw[<-cK];exact(bO.alloc _).alloc _
 have bS0:Boxed W0 (W.heap.size+1) 9 (.string s):=by rw[<-cK];have:=Boxed.new (W.alloc (.cells #[.slice none 0 0] 229)) 9 (.string s);rw[aI]at this;exact this.alloc _
 have bW0:Boxed W0 (W.heap.size+2) 3 (Iq w):=by rw[<-cK];have:=Boxed.new ((W.alloc (.cells #[.slice none 0 0] 229)).alloc (.cells #[.string s] 9)) 3 (Iq w);rw[aI,aI]at this;exact this
 have su:Bt W W0:=by rw[<-cK];exact(((aj _ W).alloc (ai _) _).alloc (by simp) _).alloc (by simp;omega) _
 have f_:W0.heap.size=W.heap.size+3:=by rw[<-cK];simp
 have UE:=ht.below su;rw[aI,cK];gi_wp2;refine wpIn_rangeFunc_ownH rfl (by omega) (gf:=217) (lb:=#[Pq (W.heap.size+2),Pq (W.heap.size+1)]) rfl trivial (enters_of func217 (by kernel_rfl) rfl)
  (uV 5 (by omega) (W.heap.size+2) (W.heap.size+1) s w l hl hs hw0 eQ W0 UE bW0 bS0) kI.trans (yD (by omega)) (aj _ _) (fun _=>rfl)
  (fun pre W'=>((∃v,Boxed W' W.heap.size 229 v/\W'.ownsRow W.heap.size 231 5 v pre.length (iF pre)/\True)/\Boxed W' (W.heap.size+2) 3 (Iq w))/\Bt W W')
  (fun _ _ _=>False)
  (OwnFrom.and (OwnFrom.and (Own.from (holdsRow_own W.heap.size W.heap.size 229 231 5 (fun pre:List Ln=>pre.length) (fun pre=>iF pre) (fun _ _=>True)) _) (Own.from (boxed_own _ _ _) _)) (ownFrom_below (ai _) (by omega)))
  (fun _ _ _ _ _ hs _ _=>hs)
  ⟨⟨⟨_,bO0,gF _ _ _ _,trivial⟩,bW0⟩,su⟩
  (fun x a' W'=>∃Bx,W'.heap[Bx]?=some (.cells (cP x).toArray 231 (0,0))/\a'={tmps:=#[.string s,Iq w,undef,undef,.slice none 0 0,Pq W.heap.size,Pq Bx,.string s,Iq w,.func (.func 217) #[] #[Pq (W.heap.size+2),Pq (W.heap.size+1)],.agg (cP x).toArray,undef,undef,undef,undef,undef],defers:=[]})
  ?hAx ?assign ?body ?done ?stop;case hAx=>rintro x a' _ A B row ⟨Bx,h2,h3⟩ hg hr;refine⟨Bx,(hg.block Bx (aM.1 h2).1 (fun e=>?_)).trans h2,h3⟩;obtain⟨_,o,ho,hc⟩:=hr Bx e.symm;rw[h2]at ho;cases ho;cases hc
 case assign=>rintro k0 pre ⟨T,V,F,N,E⟩ W' K ⟨⟨⟨v,hv,hrow,_⟩,hbw⟩,hB⟩ hK;dsimp only[lnV,cP]at hK⊢;have T8:=hB.size;gi_wp2;exact hK _ _ ((KeepsOthers.alloc _ _).from _) (DA hbw _) ⟨⟨⟨v,hv.alloc _,hrow.alloc _,trivial⟩,hbw.alloc _⟩,hB.alloc hB.size _⟩ ⟨W'.heap.size,heap_alloc_new _ _,rfl⟩
 case body=>rintro k0 pre x a' W' hlk ⟨r,hr⟩ ⟨⟨⟨v,hv,hrow,_⟩,hbw⟩,hB⟩ ⟨Bx,hx,rfl⟩ hlt;have hc:=hv.cell;obtain⟨x0,x1,x2,x3,x4⟩:=Kh hx;have HX:Hid (W'.heap[Bx]?=some (.cells (cP x).toArray 231 (0,0))):=hx;have T8:=hB.size;clear hx;gi_wp2_with(gi_at_builtin;refine wpListIn_append_own _ rfl _ _ 229 rfl W.heap.size 231 i0 (.agg #[.string ⟨#[]⟩,Iq 0,Iq 0,Iq 0,Iq 0]) 5 48 underlying229 hi eG fs gd rfl (by decide) _ _ _ rfl (hrow.alloc _) (az W'.heap.size 0) 1 1 (cP x) rfl rfl (DQ _ _ _) (by intro u hu;simp[cP]at hu;rcases hu with rfl|rfl|rfl|rfl|rfl<;>rfl) (by unfold maxLen;omega) (by omega) (by simp;omega) ?_;intro v' w1 bD oz _;obtain⟨g',dD,rfl⟩:=ownsRow_succ bD;obtain⟨oB,sB,hr2,I2,hb2⟩:=hv.appended (by decide) hrow hB.size (ai _) bD oz;obtain⟨dj,KZ⟩:=PP (v':=Sq g' (pre.length+1) dD) (by decide) (by omega) hv hrow hbw oz;have hc1:=oB.cell;have xg:=oB.frozen);exact⟨I2.from _,dj,⟨⟨_,sB,by grind[mS],trivial⟩,KZ⟩,hB.trans hb2⟩
 case done=>rintro D ys W' hD rfl ⟨⟨⟨v,hv,hrow,_⟩,hbw⟩,hB⟩ hK;have hc:=hv.cell;gi_wp2;refine⟨by simp,.inl ⟨_,_,rfl,run_takeDeferred hK,?_⟩⟩;exact⟨_,results_tmp rfl _ _ _,v,rfl,ownsRow_putObj hrow _ hK rfl,hB.trans (belowK_b (w:=W) (ai _) W' D _ _ (by omega) hK rfl rfl)⟩
 case stop=>rintro D c pre W' _ _ h _;exact h.elim
attribute[local go_sem] Oper.semAt_some
def xP(id:Int)(bi off:Nat->Int):Nat->Int
 |0=>0
 |k+1=>if bi k=id then off k else xP id bi off k
def gN(id:Int)(bi off:Nat->Int)(n:Nat):Int:=if id=0 then 0 else xP id bi off n
def iY(n:Nat):List Nat:=(List.range n).reverse
theorem kZ  n  :iY (n+1)=n::iY n:=by unfold iY;rw[l',List.reverse_append];rfl
theorem vI  id   bi off  :∀  n k   pre,pre++iY k=iY n->k<=n->(∀i∈pre,bi i≠id)->xP id bi off n=xP id bi off k
 |0,k,pre,h,hk,_=>by grind
 |n+1,k,pre,h,hk,hp=>by
  by_cases e:k=n+1;·rw[e]
  ·rw[kZ]at h;cases pre with
   |nil=>have:=congrArg List.length h;grind[iY]
   |cons a pre=>rw[oK]at h;injection h with h1 h2;have ha:=hp a (by simp);rw[h1]at ha;have hu:xP id bi off (n+1)=xP id bi off n:=if_neg ha;rw[hu];exact vI id bi off n k pre h2 (by omega) (fun i hi=>hp i (by simp[hi]))
def mg(W:World)(p:Option Addr)(n:Nat)(bi off:Nat->Int):Prop:=n=0\/∃b o,p=some (az b o)/\b<W.heap.size/\∀j,j<n->W.cell? (az b (o+j*2))=some (Iq (bi j))/\W.cell? (az b (o+j*2+1))=some (Iq (off j))
def pH(Bx:Nat)(p:Option Addr)(W W':World):Prop:=W'.heap[Bx]?=W.heap[Bx]?/\∀a:Addr,p=some a->W'.heap[a.block]?=W.heap[a.block]?
theorem pH.trans{Bx}{p}{A B C}(h:pH Bx p A B)(k:pH Bx p B C):pH Bx p A C:=⟨k.1.trans h.1,fun a e=>(k.2 a e).trans (h.2 a e)⟩
theorem mg.keep{W W'}{Bx}{p}{n}{bi off}(h:mg W p n bi off)(hk:pH Bx p W W'):mg W' p n bi off:=by
 rcases h with h|⟨b,o,e,h1,h2⟩;·exact .inl h
 ·have hb:W'.heap[b]?=W.heap[b]?:=hk.2 _ e;refine .inr ⟨b,o,e,?_,fun j hj=>⟨(bU (a:=(az b (o+j*2))) hb).trans (h2 j hj).1,(bU (a:=(az b (o+j*2+1))) hb).trans (h2 j hj).2⟩⟩;grind
theorem mg.below{W W'}{p}{n}{bi off}(h:mg W p n bi off)(hb:Bt W W'):mg W' p n bi off:=by
 rcases h with h|⟨b,o,e,h1,h2⟩;·exact .inl h
 ·exact .inr ⟨b,o,e,zz008 h1 hb.size,fun j hj=>⟨(hb.cell (p:=(az b _)) h1).trans (h2 j hj).1,(hb.cell (p:=(az b _)) h1).trans (h2 j hj).2⟩⟩
def scV(bi off:Nat->Int)(i:Nat):Array Value:=#[Iq (i:Int),.agg #[Iq (bi i),Iq (off i)]]
theorem zK(n:Nat)(hn:3<=n)(Bx N c:Nat)(p:Option Addr)(bi off:Nat->Int)(hN:N<=4611686018427387904)(W0:World)(hs:mg W0 p N bi off)(hx:W0.heap[Bx]?=some (.cells #[.slice p N c] 28 (0,0))):
 SeqStopsK Fence.wide n prog 202 #[Pq Bx] (scV bi off) (pH Bx p) (fun xs=>xs=iY N) (fun pre=>∃k,k<=N/\pre++iY k=iY N) N W0:=by
 intro k0 J Jx W hW hJ hJx hY h0;have sC:=(hW.block Bx (aM.1 hx).1).trans hx;have cx:W.cell? (az Bx 0)=some (.slice p N c):=by simp[World.cell?,sC]
 have HX1:Hid (W.heap[Bx]?=some (.cells #[.slice p N c] 28 (0,0))/\mg W p N bi off):=⟨sC,hs.below hW⟩;have HY:=qH<|hY;have HJ0:=qH<|h0;refine callsIn_of_wp func202 rfl trivial ?_ rfl;simp only[ntmps202,lp,e_,iA,Nat.reduceAdd,Nat.reduceSub,tf,tg,th,ti,tj,oK];gi_wp2;gi_loopw[3] (fun iv wr=>∃(k:Nat) (pre:List Nat),k<=N/\iv=Iq ((k:Int)-1)/\Hid (pre++iY k=iY N)/\Hid (wr.heap[Bx]?=some (.cells #[.slice p N c] 28 (0,0))/\mg wr p N bi off)/\Hid (J pre wr)) (fun iv _=>(intOf iv+1).toNat);case atStart=>grind
 case round=>
  obtain⟨k,pre,hk,rfl,je,HX,XV⟩:=hrel;cases k with
  |zero=>gi_wp2;go_end0;exact⟨⟨_,rfl⟩,.inl ⟨_,by have:=je.out;simp_all[iY],XV⟩⟩
  |succ i=>
   have ei:((i+1:Nat):Int)-1=(i:Int):=by omega
   rw[ei];have BI:pre.length<N:=by have h1:=congrArg List.length je;rw[bm]at h1;simp[iY]at h1;omega
   have cx:wr.cell? (az Bx 0)=some (.slice p N c):=by simp[World.cell?,HX.1]
   obtain⟨b,o,rfl,hbl,pB⟩:=HX.2.resolve_left (by omega);have c0:=(pB i (by omega)).1;have c1:=(pB i (by omega)).2;obtain⟨fn,tmps,assign,body,hy,hR⟩:=HY pre i wr XV BI;dsimp only[scV]at hy;have HR:=qH<|hR;have zA:Hid ((pre++[i])++iY i=iY N):=by show _=_;rw[<-je.out,kZ];simp
   gi_wp2;refine⟨fun _=>by omega,HR.mono ?_⟩;rintro e W3 (⟨rfl,Ss,xF⟩|⟨rfl,OL⟩)
   ·have HX3:Hid (W3.heap[Bx]?=some (.cells #[.slice (some (az b o)) N c] 28 (0,0))/\mg W3 (some (az b o)) N bi off):=⟨xF.1.trans HX.1,HX.2.keep xF⟩;gi_wp2;go_roundw;case rel=>grind
    case measure=>simp[intOf]<;>omega
   ·gi_wp2;refine bodyPost_ret (results_none rfl _ _ _) rfl ?_;exact⟨⟨_,rfl⟩,.inr ⟨_,⟨i,by omega,zA⟩,OL⟩⟩
theorem zL(p:Option Addr)(N c:Nat)(W:World):
 Cw 168 #[.slice p N c] W fun e w'=>e=Rw (.func (.func 202) #[] #[Pq W.heap.size])/\w'=W.alloc (.cells #[.slice p N c] 28):=by go_enter func168,ntmps168;go_wp2;go_ret;simp_all
theorem Lr{Bx B}{p}(h0:Bx<B)(h1:∀a,p=some a->a.block<B)  W   l   o o'  (hl:B<=l) (_:W.heap[l]?=some o) (_:o.isCells=false) (_:o.isWalk=false):pH Bx p W (W.putObj l o'):=
 ⟨World.putObj_heap_other (by omega),fun a e=>World.putObj_heap_other (by grind)⟩
theorem N'{W:World}{B}{x y}{t}(h:W.heap[B]?=some (.cells #[x,y] t (0,0))):W.cell? (az B 0)=some x/\W.cell? (az B 1)=some y:=by simp[World.cell?,h]
theorem G5(id:Int)(p:Option Addr)(N c:Nat)(bi off:Nat->Int)(U:World)(hs:mg U p N bi off)(hN:N<=4611686018427387904)(hp:∀a:Addr,p=some a->a.block<U.heap.size):
 Calls prog 106 #[Iq id,.slice p N c] U fun e U'=>e=.returned (Iq (gN id bi off N))/\Below U.heap.size U U':=by
 by_cases h0:id=0;·subst h0;have HR:Hid (gN 0 bi off N=0):=if_pos rfl;have HB:Hid (Below U.heap.size U ((U.alloc (.cells #[Iq 0] 3)).alloc (.cells #[Iq 0] 3))):=((aj _ U).alloc (ai _) _).alloc (by simp) _;go_enter func106,ntmps106;go_wp2;refine bodyPost_ret (v:=Iq 0) (by simp[results,Tryz.results106,go_sem]) rfl ⟨by rw[HR.out],HB⟩
 ·have HR:Hid (gN id bi off N=xP id bi off N):=if_neg h0;refine(callsIn_wide (n:=6)).1 ?_;refine callsIn_of_wp_marks func106 rfl trivial ?_ rfl;simp only[ntmps106,lp,e_,iA,Nat.reduceAdd,Nat.reduceSub,tf,tg,th,ti,tj,oK];gi_wp2_with fail;refine⟨trivial,(callsIn_wide.2 (zL p N c _)).mono ?_⟩;rintro e w' ⟨rfl,rfl⟩;obtain⟨S,hS⟩:=ag U.heap.size;obtain⟨W0,cK⟩:=ag (((U.alloc (.cells #[Iq id] 3)).alloc (.cells #[Iq 0] 3)).alloc (.cells #[.slice p N c] 28));have bI:Boxed W0 S 3 (Iq id):=by rw[<-cK,<-hS];exact((Boxed.new U 3 (Iq id)).alloc _).alloc _
  have bR:Boxed W0 (S+1) 3 (Iq 0):=by rw[<-cK,<-hS];have:=Boxed.new (U.alloc (.cells #[Iq id] 3)) 3 (Iq 0);rw[aI]at this;exact this.alloc _
  have bX:Boxed W0 (S+2) 28 (.slice p N c):=by rw[<-cK,<-hS];have:=Boxed.new ((U.alloc (.cells #[Iq id] 3)).alloc (.cells #[Iq 0] 3)) 28 (.slice p N c);rw[aI,aI]at this;exact this
  have su:Below S U W0:=by rw[<-cK,<-hS];exact(((aj _ U).alloc (ai _) _).alloc (by simp) _).alloc (by simp;omega) _
  have f_:W0.heap.size=S+3:=by rw[<-cK];simp;omega
  have hsc:=hs.below (by subst hS;exact su);have I5:∀a:Addr,p=some a->a.block<S:=fun a e=>by grind
  rw[aI,aI,cK];gi_wp2;refine wpIn_rangeFunc_ownH rfl (by omega) (gf:=202) (lb:=#[Pq (S+1+1)]) rfl trivial (enters_of func202 (by kernel_rfl) rfl)
   (zK 5 (by omega) (S+1+1) N c p bi off hN W0 hsc bX) pH.trans (Lr (by omega) (fun a e=>by grind)) (aj _ _) (fun _=>rfl)
   (fun pre W'=>(((Boxed W' S 3 (Iq id)/\Boxed W' (S+1) 3 (Iq 0))/\Boxed W' (S+1+1) 28 (.slice p N c))/\Below S U W')/\∀i∈pre,bi i≠id)
   (fun cd pre W'=>∃pr x,pre=pr++[x]/\bi x=id/\(∀i∈pr,bi i≠id)/\Boxed W' (S+1) 3 (Iq (off x))/\Below S U W'/\cd=.ret)
   (OwnFrom.and (OwnFrom.and (OwnFrom.and (OwnFrom.and (Own.from (boxed_own S 3 (fun _:List Nat=>Iq id)) _) (Own.from (boxed_own (S+1) 3 (fun _:List Nat=>Iq 0)) _)) (Own.from (boxed_own (S+1+1) 28 (fun _:List Nat=>Value.slice p N c)) _)) (ownFrom_below (by omega) (by omega))) (fun _ _ _ _ h _ _=>h))
   (fun cd pre A B row ⟨pr,x,e1,e2,e3,hb,hB,hc⟩ hg hr=>⟨pr,x,e1,e2,e3,(Own.from (boxed_own (S+1) 3 (fun _:Unit=>Iq (off x))) W0.heap.size) () A B row hb hg hr,(ownFrom_below (β:=Unit) (n₀:=S) (w₀:=U) (by omega) (by omega)) () A B row hB hg hr,hc⟩)
   ⟨⟨⟨⟨bI,bR⟩,bX⟩,su⟩,fun i hi=>by cases hi⟩
   (fun x a' W'=>∃Bx,W'.heap[Bx]?=some (.cells #[Iq (bi x),Iq (off x)] 70 (0,0))/\a'={tmps:=#[Iq id,.slice p N c,Pq S,undef,Pq (S+1),undef,Pq Bx,Iq id,.bool false,.slice p N c,.func (.func 202) #[] #[Pq (S+1+1)],Iq (x:Int),.agg #[Iq (bi x),Iq (off x)],undef,undef,undef,undef,undef,undef],defers:=[]})
   ?hAx ?assign ?body ?done ?stop;case hAx=>rintro x a' _ A B row ⟨Bx,h2,h3⟩ hg hr;refine⟨Bx,(hg.block Bx (aM.1 h2).1 (fun e=>?_)).trans h2,h3⟩;obtain⟨_,o,ho,hc⟩:=hr Bx e.symm;rw[h2]at ho;cases ho;cases hc
  case assign=>rintro k0 pre x W' K ⟨⟨⟨⟨h1,h2⟩,h3⟩,hB⟩,h4⟩ hK;dsimp only[scV]at hK⊢;have hkp:∀o,pH (S+1+1) p W' (W'.alloc o):=fun o=>⟨du _ _ _ h3.lt,fun a e=>du _ _ _ (by have:=I5 a e;have:=h1.lt;omega)⟩;gi_wp2;exact hK _ _ ((KeepsOthers.alloc _ _).from _) (hkp _) ⟨⟨⟨⟨h1.alloc _,h2.alloc _⟩,h3.alloc _⟩,hB.alloc (by have:=h1.lt;omega) _⟩,h4⟩ ⟨W'.heap.size,heap_alloc_new _ _,rfl⟩
  case body=>
   rintro k0 pre x a' W' hlk ⟨r,hr⟩ ⟨⟨⟨⟨h1,h2⟩,h3⟩,hB⟩,h4⟩ ⟨Bx,hx,rfl⟩ hlt;have c1:=h1.cell;have c2:=h2.cell;have f2:=h2.frozen;obtain⟨x0,x1⟩:=N' hx;by_cases hid:bi x=id;·have HE:Hid (Boxed (W'.setCell (az (S+1) 0) (Iq (off x))) (S+1) 3 (Iq (off x))/\Below S U (W'.setCell (az (S+1) 0) (Iq (off x)))):=⟨h2.set _,hB.setCell (p:=(az (S+1) 0)) (by grind) _⟩;rw[hid]at x0;gi_wp2;exact⟨(KeepsOthers.setCell _ _ _).from _,pre,x,rfl,hid,h4,HE.1,HE.2,rfl⟩
   ·have e1:(bi x==id)=false:=by simpa using hid
    gi_wp2;exact⟨(KeepsOthers.refl _).from _,⟨rfl,fun _ _=>rfl⟩,⟨⟨⟨h1,h2⟩,h3⟩,hB⟩,fun i hi=>by grind⟩
  case done=>
   rintro D ys W' hD rfl ⟨⟨⟨⟨h1,h2⟩,h3⟩,hB⟩,h4⟩ hK;have c2:=h2.cell;have f2:=h2.frozen;have fW:Hid (gN id bi off N=0):=by show _=_;rw[HR.out,vI id bi off N 0 (iY N) (by simp[iY]) (aZ _) h4];rfl
   have hK2:(W'.setCell (az (S+1) 0) (Iq 0)).heap[D]?=some (.deferred (some [])):=(cF W' (az (S+1) 0) _ D (by grind)).trans hK;have jd:=(h2.set (Iq 0)).kept (grownBy_putObj' _ D (.deferred none)) (by grind);have xf:=jd.cell;have _l:Hid (Below S U ((W'.setCell (az (S+1) 0) (Iq 0)).putObj D (.deferred none))):=(hB.setCell (p:=(az (S+1) 0)) (by grind) _).trans (belowK_b (w:=U) (by omega) _ D _ _ (by omega) hK2 rfl rfl);gi_wp2;refine⟨by simp,.inl ⟨_,_,rfl,run_takeDeferred hK2,?_⟩⟩;exact⟨Iq 0,by simp[results,Tryz.results106,go_sem,xf],by rw[fW.out],by rw[hS];exact _l⟩
  case stop=>
   rintro D cd pre W' hD ⟨k,hk,je⟩ ⟨pr,x,e1,e2,e3,hb,hB,rfl⟩ hK;have fW:Hid (gN id bi off N=off x):=by
    show _=_;have hq:pr++iY (k+1)=iY N:=by
     have:=je;rw[e1]at this;have hx:x=k:=by
      have h9:∀(n:Nat) (pr:List Nat) (x k:Nat),(pr++[x])++iY k=iY n->x=k:=by
       intro n;induction n with
       |zero=>simp_all[iY]
       |succ n ih=>
        intro pr x k h;rw[kZ]at h;cases pr with
        |nil=>simp at h;have:=congrArg List.length h.2;grind[iY]
        |cons a pr=>grind
      exact h9 N pr x k this
     rw[kZ,<-hx];rw[<-hx]at this;simpa using this
    have Uv:k+1<=N:=by have:=congrArg List.length hq;simp[iY]at this;omega
    have hxk:x=k:=by
     have h1:=je;rw[e1]at h1;have h2:pr++(x::iY k)=pr++(k::iY k):=by rw[kZ]at hq;rw[hq,<-h1];simp
     have:=List.append_cancel_left h2;injection this
    rw[HR.out,vI id bi off N (k+1) pr hq Uv e3];show(if bi k=id then off k else xP id bi off k)=off x;rw[<-hxk,if_pos e2]
   have jd:=hb.kept (grownBy_putObj' W' D (.deferred none)) (by grind);have xf:=jd.cell;gi_wp2;refine⟨by simp,.inl ⟨_,_,rfl,run_takeDeferred hK,?_⟩⟩;exact⟨Iq (off x),by simp[results,Tryz.results106,go_sem,xf],by rw[fW.out],by rw[hS];exact hB.trans (belowK_b (w:=U) (by omega) W' D _ _ (by omega) hK rfl rfl)⟩
end
theorem QM(sp:Option Addr)(sn sc:Nat)(bi off:Nat->Int)(id:Int)(U:World)(hsc:mg U sp sn bi off)(xj:sn<=4611686018427387904):
 Cw 85 #[.slice sp sn sc,Iq id] U fun e w'=>e=Rw (Iq (gN id bi off sn))/\w'=U:=by
 have HS:=qH<|hsc;clear hsc;go_enter func85,ntmps85;go_wp2;go_loop[5,6] (fun o i=>∃j:Nat,j<=sn/\i=Iq (j:Int)/\o=Iq (gN id bi off j)) (fun _ i=>sn-(intOf i).toNat);case atStart=>grind[gN,xP]
 case round=>
  obtain⟨j,hj,rfl,rfl⟩:=hrel;by_cases hlt:j<sn
  ·have aN:(j:Int)<(sn:Int):=by omega
   obtain⟨b,o,rfl,_,hc⟩:=HS.resolve_left (by omega);obtain⟨c0,c1⟩:=hc j hlt;obtain⟨x,hx⟩:=ag (bi j);obtain⟨y,hy⟩:=ag (off j);have HN:Hid (gN id bi off (j+1)=if id=0 then 0 else if x=id then y else gN id bi off j):=by
    show _=_;unfold gN;by_cases q:id=0;·omega
    ·grind[xP]
   have HZ:Hid (id=0->gN id bi off j=0):=fun q=>by grind[gN]
   rw[hx]at c0;rw[hy]at c1;generalize gN id bi off j=z at HN HZ;clear hc hx hy;by_cases q0:id=0
   ·have e0:(id !=0)=false:=by rw[q0];rfl
    rw[if_pos q0]at HN;have Wm:=qH<|HZ q0;clear q0 HZ;go_wp2;go_round;case rel=>exact⟨j+1,by omega,by go_num,by rw[HN.out,Wm.out]⟩
    case measure=>simp[intOf];omega
   ·have e0:(id !=0)=true:=by simpa using q0
    rw[if_neg q0]at HN;by_cases q1:x=id
    ·have e1:(x==id)=true:=by simpa using q1
     rw[if_pos q1]at HN;clear q0 q1 HZ;go_wp2;go_round;case rel=>exact⟨j+1,by omega,by go_num,by rw[HN.out]⟩
     case measure=>simp[intOf];omega
    ·have e1:(x==id)=false:=by simpa using q1
     rw[if_neg q1]at HN;clear q0 q1 HZ;go_wp2;go_round;case rel=>exact⟨j+1,by omega,by go_num,by rw[HN.out]⟩
     case measure=>simp[intOf];omega
  ·have aN:¬(j:Int)<(sn:Int):=by omega
   obtain rfl:j=sn:=by omega
   go_wp2;go_ret;simp_all
