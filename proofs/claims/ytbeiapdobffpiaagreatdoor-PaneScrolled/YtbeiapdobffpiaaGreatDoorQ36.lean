import Derived.Test.YtbeiapdobffpiaaGreatDoorQ00
import Derived.RangeFuncNested
import Derived.RangeFuncBound
import Derived.Shelf.Abstract
import Derived.Shelf.RegionOpen
import Derived.WalkKit
import Derived.OwnWalkIn
import Derived.LoopNIn
import Derived.LoopIn
import Derived.Sort.CutIn
import Derived.Test.YtbeiapdobffpiaaGreatDoorQ34
import Derived.Test.YtbeiapdobffpiaaGreatDoorQ02
set_option linter.all false
set_option maxRecDepth 100000
set_option maxHeartbeats 16000000
namespace Go.Proofs.YtbeiapdobffpiaaGreatDoor
open Go.RowKit Go.Proofs.Tryz
section
open Go.Shelf
attribute[local go_sem] Oper.semAt_some
def lP(Bw:Nat)(W W':World):Prop:=(∀(k:Nat) (c:Array Value) (fz:Nat×Nat),W.heap[k]?=some (.cells c 273 fz)->W'.heap[k]?=some (.cells c 273 fz))/\W'.heap[Bw]?=W.heap[Bw]?
theorem lP.trans{Bw}{A B C}(h:lP Bw A B)(k:lP Bw B C):lP Bw A C:=⟨fun i c fz e=>k.1 i c fz (h.1 i c fz e),k.2.trans h.2⟩
theorem keepL_row{Bw}{W W'}(h:lP Bw W W'){B n}{v}{xs}(ho:W.ownsRow B 273 2 v n xs):W'.ownsRow B 273 2 v n xs:=by refine⟨ho.1,ho.2.imp id ?_⟩;rintro⟨g,al,iT,e1,e2,e3,e4⟩;exact⟨g,al,iT,e1,e2,h.1 g iT _ e3,e4⟩
theorem kx{W W'}(h:Bt W W'):W.grownBy W' none:=⟨h.os,h.tape,h.output,h.size,fun k hk _=>h.block k hk⟩
theorem zR{w}{B}{v}{l}(h:w.ownsRow B 273 2 v l.length (dF l)):rj w v l:=(yu h).clsC
theorem Dn{w w'}{B n}{e}{v}{xs}(h:w.ownsRow B e 2 v n xs)(hb:Bt w w'):w'.ownsRow B e 2 v n xs:=by refine⟨h.1,h.2.imp id ?_⟩;rintro⟨g,al,iT,e1,e2,e3,e4⟩;exact⟨g,al,iT,e1,e2,(hb.block g (aS.1 e3).1).trans e3,e4⟩
theorem Jz{w}{b off al a n}{l:List (List UInt8×Int)}(hn:a+n<=l.length)(kG:l.length<=al)(r_:al<=maxLen)(hb:b<w.heap.size)(hc:∀j (hj:j<l.length),w.cell? (az b (off+j*2))=some (.string ⟨(l[j]).1.toArray⟩)/\w.cell? (az b (off+j*2+1))=some (Iq (l[j]).2)):
 rj w (.slice (if al=a then some (az b off)else some (az b (off+a*2))) n (al-a)) ((l.drop a).take n):=by
 have hl:((l.drop a).take n).length=n:=by rw[cX,cW];omega
 refine⟨_,_,by rw[hl],by rw[hl];omega,by omega,?_⟩;by_cases e:al=a;·grind
 ·right;rw[if_neg e];grind
def Z_(x:Ln):Array Value:=#[.agg #[.string ⟨x.T.toArray⟩,Iq x.W,Iq x.F,Iq x.N,Iq x.E]]
theorem JI(n:Nat)(hn:3<=n)(k0 Bw Bs:Nat)(s:ByteArray)(w:Int)(l:List (List UInt8×Int))(hl:cL (aZ s.data.toList)=l)(hs:s.size<=68719476736)(hw0:-9223372036854775808<=w)(eu:w<=9223372036854775807)(J Jx:List Ln->World->Prop)(W:World)
    (hJ:AbidesFrom W.heap.size J)
    (hY:∀pre x W1,J pre W1->pre.length<l.length+1->YieldAt Fence.wide (n-1) prog k0 (Z_ x) W1 fun e W'=>
      (e=Rw (.bool true)/\J (pre++[x]) W'/\lP Bw W1 W')\/(e=Rw (.bool false)/\Jx (pre++[x]) W'))
    (ht:∀W',Bt W W'->dC W')
    (hBw:W.heap[Bw]?=some (.cells #[Iq w] 3 (0,0))) (Sr:W.heap[Bs]?=some (.cells #[.string s] 9 (0,0))) (h0:J [] W):
    CallsIn Fence.wide n prog 248 #[.func (.yield k0) #[] #[],Pq Bw,Pq Bs] W fun e W'=>(∃v,e=Rw v)/\
      ((∃ys,ys=cK l w/\J ys W')\/(∃pre,True/\Jx pre W')):=by
  have uM:s.data.toList.length=s.size:=by rw[j9];rfl
  have hR:=du s.data.toList;have hC:=fM (aZ s.data.toList);have hbd:=jv (aZ s.data.toList);have hsh:=rM (aZ s.data.toList);rw[uM]at hR;rw[hl]at hC hbd hsh;have cw:W.cell? (az Bw 0)=some (Iq w):=by simp[World.cell?,hBw]
  have cs:W.cell? (az Bs 0)=some (.string s):=by simp[World.cell?,Sr]
  have _t:=qH<|hBw;have iW:=qH<|hbd;have VV:=qH<|hsh;have HL:=qH<|hl;have HT:=qH<|ht;have HJ:=qH<|hJ;have HY:=qH<|hY;clear hBw Sr hbd hsh hl ht hJ hY uM;refine callsIn_of_wp func248 rfl trivial ?_ rfl;simp only[ntmps248,qm,fB,iS,Nat.reduceAdd,Nat.reduceSub,vC,vD,vF,vG,vH,tq];by_cases hlt:w<1
  · have HE:Hid (cK l w=[]):=by show _=_;rw[cK,if_pos hlt]
    gi_wp2;refine bodyPost_ret (results_none rfl _ _ _) rfl ?_;exact⟨⟨_,rfl⟩,.inl ⟨[],HE.symm,h0⟩⟩
  have HE:Hid (cK l w=cZ l w 0):=by show _=_;rw[cK,if_neg hlt]
  have OY:1<=w:=by omega
  have G:Hid (Cw 171 #[.string s] W fun e w'=>∃v,e=Rw v/\w'.ownsRow W.heap.size 273 2 v l.length (dF l)/\Bt W w'):=by have :=lT s W (HT W (ag _ _)) (by omega);rw[HL.out]at this;exact this
  gi_wp2_with fail;refine⟨trivial,fun _=>by omega,(callsIn_wide.2 G).mono ?_⟩;rintro e w1 ⟨v1,rfl,o1,b1⟩;have HO1:=qH<|o1;have j1:=HJ.out [] W w1 none h0 (kx b1) (fun r e=>by cases e);have za9:=(aS.1 _t).1;have Yx:=qH<|(b1.block Bw za9).trans _t;have hs1:=b1.size;obtain⟨a1,al,rfl,kG,r_,UW⟩:=zR o1;clear G _t cw cs o1 UW;gi_wp2;gi_loopw[5] (fun p wr=>∃(a:Nat) (pre:List Ln),p=Iq a/\a<=l.length/\Hid (pre++cZ l w a=cZ l w 0)/\Hid (wr.ownsRow W.heap.size 273 2 (.slice a1 l.length al) l.length (dF l))/\Hid (wr.heap[Bw]?=some (.cells #[Iq w] 3 (0,0)))/\J pre wr) (fun p _=>l.length-(intOf p).toNat);case atStart=>exact⟨0,[],rfl,bc _,rfl,HO1,Yx,j1⟩
  case round=>
    obtain⟨a,pre,rfl,ha,gV,bi,hbw,hJs⟩:=hrel;have cw:wr.cell? (az Bw 0)=some (Iq w):=by have :=hbw.out;simp[World.cell?,this]
    have Ss:=(aS.1 hbw).1;clear j1 HO1 Yx b1;have qB:(l=[]/\a1=none/\al=0)\/∃b,a1=some (az b 0):=by
      rcases bi.2 with⟨e1,e2⟩|⟨g,cp,iT,e1,_⟩;·grind
      ·grind
    have xM:(a:Int)<=(l.length:Int):=by omega
    have hlc:(l.length:Int)<=(al:Int):=by omega
    rcases qB with⟨e1,rfl,rfl⟩|⟨b,rfl⟩
    · have mY:prog.follows .mixedOrders=true:=by kernel_rfl
      have hl0:l.length=0:=by rw[e1];rfl
      obtain rfl:a=0:=by omega
      have hLn:cP l w 0=⟨[],0,0,0,3⟩:=by
        rw[e1];have h1:¬w<0:=by omega
        simp[cP,aQ,e_,bJ,aF,h1]
      have Nl:=qH<|hLn;have HF:Hid (cK l w=pre++[cP l w 0]):=by show _=_;rw[HE.out,<-gV.out,jR (bc _) (by rw[hLn])]
      have BF:pre.length<l.length+1:=by have :=congrArg List.length gV;have h2:=(ft l w 0 (bc _)).1;rw[bf]at this;omega
      have Cp:∀w',rj w' (.slice none 0 0) []:=fun w'=>⟨none,0,rfl,ai _,bc _,.inl rfl⟩;have BJ:Hid (Cw 249 #[.slice none 0 0,Iq w] wr.drew fun e w'=>e=Rw (.tuple #[Iq 0,Iq 0,Iq 3])/\Bt wr w'):=by refine(lS [] _ w wr.drew (Cp _) (by simp) (by simp) OY eu).mono ?_;rintro e w2 ⟨rfl,b2⟩;exact⟨by simp[aQ,e_],((ag wr.heap.size wr).drew).trans b2⟩
      have RQ:Hid (∀w',Cw 250 #[.slice none 0 0,Iq w] w' fun e w2=>e=Rw (.agg #[.string ⟨#[]⟩,Iq 0,Iq 0,Iq 0,Iq 0])/\Bt w' w2):=by
        intro w';refine(sB [] _ w w' (Cp w').cls (by simp) (by simp) (by simp[bJ]) OY (fun h=>by grind[aF])).mono ?_;rintro e w2 ⟨rfl,b2⟩;refine⟨?_,b2⟩;have h1:¬w<0:=by omega
        simp[pX,KN,bJ,aF,h1]
      rw[hl0];clear hLn Cp;gi_wp2_with fail;gi_cut[6,7,8]from 14 (fun x y z wx=>x=Iq 0/\y=Iq 0/\z=Iq 3/\Bt wr wx);case first=>
        gi_region_with_o(refine⟨trivial,fun _=>by omega,(callsIn_wide.2 BJ).mono ?_⟩;rintro e wq ⟨rfl,bq⟩);all_goals(gi_wp2_with fail)
        all_goals(gi_meet)
        grind
      case rest=>
        obtain⟨rfl,rfl,rfl,bx⟩:=hcut;have CV:=bx.size;have cwx:=(bx.cell (p:=(az Bw 0)) Ss).trans cw;have za8:Bw<wc.heap.size:=by omega
        have za_:¬Bw=wc.heap.size:=by omega
        clear cw BJ;gi_wp2_with fail;gi_cut[9]from 14 (fun p wx=>∃B,p=Pq B/\wr.heap.size<=B/\wx.heap[B]?=some (.cells #[.string ⟨#[]⟩,Iq 0,Iq 0,Iq 0,Iq 0] 346 (0,0))/\Bt wr wx);case first=>
          have RN:Hid (∀w',(w'=wc.drew\/w'=(wc.alloc (.cells #[.string ⟨#[]⟩,Iq 0,Iq 0,Iq 0,Iq 0] 346)).drew)->Cw 250 #[.slice none 0 0,Iq w] w' fun e w2=>e=Rw (.agg #[.string ⟨#[]⟩,Iq 0,Iq 0,Iq 0,Iq 0])/\Bt wr w2/\
              (w'=(wc.alloc (.cells #[.string ⟨#[]⟩,Iq 0,Iq 0,Iq 0,Iq 0] 346)).drew->wc.heap.size<w2.heap.size/\w2.heap[wc.heap.size]?=some (.cells #[.string ⟨#[]⟩,Iq 0,Iq 0,Iq 0,Iq 0] 346 (0,0)))):=by
            intro w' sd;have Gb:Bt wr w':=by
              rcases sd with rfl|rfl;·exact bx.drew
              ·exact(bx.alloc CV _).drew
            refine(RQ w').mono ?_;rintro e w2 ⟨rfl,b2⟩;refine⟨rfl,Gb.trans (b2.mono Gb.size),?_⟩;rintro rfl;have tQ:wc.heap.size<(wc.alloc (.cells #[.string ⟨#[]⟩,Iq 0,Iq 0,Iq 0,Iq 0] 346)).drew.heap.size:=by show wc.heap.size<(wc.alloc _).heap.size;rw[aO];omega
            exact⟨bn tQ b2.size,(b2.block _ tQ).trans (heap_alloc_new wc _)⟩
          have _S:Hid (Cw 250 #[.slice none 0 0,Iq w] wc.drew fun e w2=>e=Rw (.agg #[.string ⟨#[]⟩,Iq 0,Iq 0,Iq 0,Iq 0])/\Bt wr w2):=by refine(RN _ (Or.inl rfl)).mono ?_;rintro e w2 ⟨h1,h2,_⟩;exact⟨h1,h2⟩
          have Nk:Hid (Cw 250 #[.slice none 0 0,Iq w] (wc.alloc (.cells #[.string ⟨#[]⟩,Iq 0,Iq 0,Iq 0,Iq 0] 346)).drew fun e w2=>e=Rw (.agg #[.string ⟨#[]⟩,Iq 0,Iq 0,Iq 0,Iq 0])/\Bt wr w2/\wc.heap.size<w2.heap.size/\w2.heap[wc.heap.size]?=some (.cells #[.string ⟨#[]⟩,Iq 0,Iq 0,Iq 0,Iq 0] 346 (0,0))):=by refine(RN _ (Or.inr rfl)).mono ?_;rintro e w2 ⟨h1,h2,h3⟩;exact⟨h1,h2,(h3 rfl).1,(h3 rfl).2⟩
          clear RQ RN;gi_region_with_o(refine⟨trivial,fun _=>by omega,?_⟩;(first|(refine(callsIn_wide.2 _S).mono ?_;rintro e wq ⟨rfl,bq⟩)|(refine(callsIn_wide.2 Nk).mono ?_;rintro e wq ⟨rfl,bq,OZ,hzr⟩;have q0:wq.cell? (az wc.heap.size 0)=some (.string ⟨#[]⟩):=(by simp[World.cell?,hzr]);have q1:wq.cell? (az wc.heap.size 1)=some (Iq 0):=(by simp[World.cell?,hzr]);have q2:wq.cell? (az wc.heap.size 2)=some (Iq 0):=(by simp[World.cell?,hzr]);have q3:wq.cell? (az wc.heap.size 3)=some (Iq 0):=(by simp[World.cell?,hzr]);have q4:wq.cell? (az wc.heap.size 4)=some (Iq 0):=(by simp[World.cell?,hzr]);have fr:∀j,wq.frozen? (az wc.heap.size j)=false:=(fun j=>frozen_of_row _ _ _ _ _ hzr);have HZR:=qH<|hzr;clear hzr)));all_goals(gi_wp2_with fail)
          all_goals(gi_meet)
          all_goals(first
            |exact⟨_,rfl,bq.size,heap_alloc_new _ _,bq.alloc bq.size _⟩
            |exact⟨_,rfl,CV,sQ HZR,((((bq.setCell (p:=(az wc.heap.size 0)) CV _).setCell (p:=(az wc.heap.size 1)) CV _).setCell (p:=(az wc.heap.size 2)) CV _).setCell (p:=(az wc.heap.size 3)) CV _).setCell (p:=(az wc.heap.size 4)) CV _⟩)
        case rest=>
          obtain⟨B,rfl,hB,hrow,Ib⟩:=hcut;have hsy:=Ib.size;have q0:wc.cell? (az B 0)=some (.string ⟨#[]⟩):=by simp[World.cell?,hrow]
          have q1:wc.cell? (az B 1)=some (Iq 0):=by simp[World.cell?,hrow]
          have q2:wc.cell? (az B 2)=some (Iq 0):=by simp[World.cell?,hrow]
          have q3:wc.cell? (az B 3)=some (Iq 0):=by simp[World.cell?,hrow]
          have q4:wc.cell? (az B 4)=some (Iq 0):=by simp[World.cell?,hrow]
          have fr:∀j,wc.frozen? (az B j)=false:=fun j=>frozen_of_row _ _ _ _ _ hrow;have bz:Bt wr ((wc.setCell (az B 2) (Iq 0)).setCell (az B 4) (Iq 3)):=(Ib.setCell (p:=(az B 2)) hB _).setCell (p:=(az B 4)) hB _;have jz:=HJ pre wr _ none hJs (kx bz) (fun r e=>by cases e);obtain⟨fn,tmps,assign,body,hy,hR⟩:=HY pre (cP l w 0) _ jz BF;rw[Nl.out]at hy;change(Instr.yield k0 #[.agg #[.string ⟨#[]⟩,Iq 0,Iq 0,Iq 0,Iq 3]]).run prog _=_ at hy;have HR:=qH<|hR;clear hrow cwx hR jz;gi_wp2;refine⟨fun _=>by omega,HR.mono ?_⟩;clear HR hy;rintro e W3 (⟨rfl,MR,tP⟩|⟨rfl,JW⟩);·gi_wp2;refine bodyPost_ret (results_none rfl _ _ _) rfl ?_;exact⟨⟨_,rfl⟩,.inl ⟨_,HF.symm,MR⟩⟩
          ·gi_wp2;refine bodyPost_ret (results_none rfl _ _ _) rfl ?_;exact⟨⟨_,rfl⟩,.inr ⟨_,trivial,JW⟩⟩
    · have mY:prog.follows .mixedOrders=true:=by kernel_rfl
      have hle:=uB (l.drop a) w;rw[cW]at hle;have HX:Hid (cZ l w a=if(cP l w a).E=3 then[cP l w a]else cP l w a::cZ l w (oF l w a)):=by
        show _=_;by_cases h:(cP l w a).E=3;·grind[jR]
        ·grind[kP]
      have Un:=qH<|nxt_lt l w a;have HNX:Hid (oF l w a=a+(aQ (l.drop a) w).n+(aQ (l.drop a) w).d):=rfl;have hlA:=(ft l w a ha).1;have zjC:=(ft l w 0 (bc _)).2;have hcl:∀w',Bt wr w'->∀n,a+n<=l.length->rj w' (.slice (if al=a then some (az b 0)else some (az b (a*2))) n (al-a)) ((l.drop a).take n):=by
        intro w' hb n hn;obtain⟨a',mg,e1,_,_,hh⟩:=(zR bi).below hb;cases e1;rcases hh with hh|⟨b',Ym,e2,j4,hc'⟩
        · subst hh;have e0:n=0:=by simp at hn;omega
          subst e0;exact⟨_,_,rfl,by simp,by omega,.inl (by simp)⟩
        ·cases e2;grind[Jz]
      have HCL:=qH<|hcl;have hFL:Cw 249 #[.slice (if al=a then some (az b 0)else some (az b (a*2))) (l.length-a) (al-a),Iq w] wr.drew fun e w'=>e=Rw (.tuple #[Iq (aQ (l.drop a) w).n,Iq (aQ (l.drop a) w).d,Iq (aQ (l.drop a) w).e])/\Bt wr w':=by have h1:=hcl wr.drew ((ag _ _).drew) (l.length-a) (by omega);rw[gt (by grind)]at h1;refine(lS (l.drop a) _ w wr.drew h1 (fun c hc=>iW c (ke hc)) (by grind) OY eu).mono ?_;rintro e w2 ⟨rfl,b2⟩;exact⟨rfl,((ag wr.heap.size wr).drew).trans b2⟩
      have RQ:Hid (∀w' v,ri w' v ((l.drop a).take (aQ (l.drop a) w).n)->Cw 250 #[v,Iq w] w' fun e w2=>e=Rw (pX ((l.drop a).take (aQ (l.drop a) w).n) w)/\Bt w' w2):=by
        intro w' v hv;have hb2:∀c∈(l.drop a).take (aQ (l.drop a) w).n,0<=c.2/\c.2<=2:=fun c hc=>iW c (ke (qk hc));have uK:((l.drop a).take (aQ (l.drop a) w).n).length<=l.length:=by rw[cX,cW];omega
        have EC:=o_ _ (fun c hc=>VV c (ke (qk hc)):∀c∈(l.drop a).take (aQ (l.drop a) w).n,c.1.length<=20);have mZ:=(dR _ hb2 ((l.drop a).take (aQ (l.drop a) w).n).length).2;rw[qj]at mZ;exact sB _ v w w' hv hb2 (by omega) (by omega) OY (fun _=>by omega)
      have Fy:Hid (∃(T:List UInt8) (V:Int) (N:Nat),pX ((l.drop a).take (aQ (l.drop a) w).n) w=.agg #[.string ⟨T.toArray⟩,Iq V,Iq 0,Iq N,Iq 0]/\cP l w a=⟨T,V,a,N,(aQ (l.drop a) w).e⟩):=by
        by_cases Rb:w<aF ((l.drop a).take (aQ (l.drop a) w).n);·exact⟨List.replicate w.toNat 32,w,1,by rw[pX,if_pos Rb];rfl,by grind[cP]⟩
        ·exact⟨bJ ((l.drop a).take (aQ (l.drop a) w).n),aF ((l.drop a).take (aQ (l.drop a) w).n),((l.drop a).take (aQ (l.drop a) w).n).length,by rw[pX,if_neg Rb];rfl,by grind[cP]⟩
      obtain⟨n1,ED⟩:=aj ((aQ (l.drop a) w).n);obtain⟨d1,BB⟩:=aj ((aQ (l.drop a) w).d);obtain⟨e1,US⟩:=aj ((aQ (l.drop a) w).e);rw[ED,BB,US]at hFL;rw[ED]at RQ;rw[ED,US]at Fy;rw[ED,BB]at HNX hle;have BJ:=qH<|hFL;obtain⟨pp,hpp⟩:=aj (if al=a then some ((az b 0):Addr)else some (az b (a*2)));rw[hpp]at BJ HCL;clear hFL hcl ED BB US;gi_wp2_with fail;gi_cut[6,7,8]from 14 (fun x y z wx=>x=Iq n1/\y=Iq d1/\z=Iq e1/\Bt wr wx);case first=>
        gi_region_with_o(refine⟨trivial,fun _=>by omega,(callsIn_wide.2 BJ).mono ?_⟩;rintro e wq ⟨rfl,bq⟩);all_goals(gi_wp2_with fail)
        all_goals(gi_meet)
        grind
      case rest=>
        obtain⟨rfl,rfl,rfl,bx⟩:=hcut;have CV:=bx.size;have cwx:=(bx.cell (p:=(az Bw 0)) Ss).trans cw;have za8:Bw<wc.heap.size:=by omega
        have za_:¬Bw=wc.heap.size:=by omega
        clear cw BJ;obtain⟨T,V,N,mX,hln⟩:=Fy.out;rw[mX]at RQ;have Nl:=qH<|hln;have Z5:IntKind.i64.wrap ((a:Int)+(n1:Int))=(a:Int)+(n1:Int):=by exact IntWalk.i64_in _ ⟨by omega,by omega⟩
        have tR:(0:Int)<=(a:Int)+(n1:Int):=by omega
        have wQ:(a:Int)+(n1:Int)<=(al:Int):=by omega
        have hq3:((a:Int)+(n1:Int)).toNat=a+n1:=by omega
        clear Fy mX hln;gi_wp2_with fail;gi_cut[9]from 14 (fun p wx=>∃B,p=Pq B/\wr.heap.size<=B/\wx.heap[B]?=some (.cells #[.string ⟨T.toArray⟩,Iq V,Iq 0,Iq N,Iq 0] 346 (0,0))/\Bt wr wx);case first=>
          have RN:Hid (∀w',(w'=wc.drew\/w'=(wc.alloc (.cells #[.string ⟨#[]⟩,Iq 0,Iq 0,Iq 0,Iq 0] 346)).drew)->Cw 250 #[.slice pp n1 (al-a),Iq w] w' fun e w2=>e=Rw (.agg #[.string ⟨T.toArray⟩,Iq V,Iq 0,Iq N,Iq 0])/\Bt wr w2/\
              (w'=(wc.alloc (.cells #[.string ⟨#[]⟩,Iq 0,Iq 0,Iq 0,Iq 0] 346)).drew->wc.heap.size<w2.heap.size/\w2.heap[wc.heap.size]?=some (.cells #[.string ⟨#[]⟩,Iq 0,Iq 0,Iq 0,Iq 0] 346 (0,0)))):=by
            intro w' sd;have Gb:Bt wr w':=by
              rcases sd with rfl|rfl;·exact bx.drew
              ·exact(bx.alloc CV _).drew
            refine(RQ w' _ (HCL w' Gb n1 (by omega)).cls).mono ?_;rintro e w2 ⟨rfl,b2⟩;refine⟨rfl,Gb.trans (b2.mono Gb.size),?_⟩;rintro rfl;have tQ:wc.heap.size<(wc.alloc (.cells #[.string ⟨#[]⟩,Iq 0,Iq 0,Iq 0,Iq 0] 346)).drew.heap.size:=by show wc.heap.size<(wc.alloc _).heap.size;rw[aO];omega
            exact⟨bn tQ b2.size,(b2.block _ tQ).trans (heap_alloc_new wc _)⟩
          have _S:Hid (Cw 250 #[.slice pp n1 (al-a),Iq w] wc.drew fun e w2=>e=Rw (.agg #[.string ⟨T.toArray⟩,Iq V,Iq 0,Iq N,Iq 0])/\Bt wr w2):=by refine(RN _ (Or.inl rfl)).mono ?_;rintro e w2 ⟨h1,h2,_⟩;exact⟨h1,h2⟩
          have Nk:Hid (Cw 250 #[.slice pp n1 (al-a),Iq w] (wc.alloc (.cells #[.string ⟨#[]⟩,Iq 0,Iq 0,Iq 0,Iq 0] 346)).drew fun e w2=>e=Rw (.agg #[.string ⟨T.toArray⟩,Iq V,Iq 0,Iq N,Iq 0])/\Bt wr w2/\wc.heap.size<w2.heap.size/\w2.heap[wc.heap.size]?=some (.cells #[.string ⟨#[]⟩,Iq 0,Iq 0,Iq 0,Iq 0] 346 (0,0))):=by refine(RN _ (Or.inr rfl)).mono ?_;rintro e w2 ⟨h1,h2,h3⟩;exact⟨h1,h2,(h3 rfl).1,(h3 rfl).2⟩
          clear RQ HCL RN;gi_region_with_o(refine⟨trivial,fun _=>by omega,?_⟩;(first|(refine(callsIn_wide.2 _S).mono ?_;rintro e wq ⟨rfl,bq⟩)|(refine(callsIn_wide.2 Nk).mono ?_;rintro e wq ⟨rfl,bq,OZ,hzr⟩;have q0:wq.cell? (az wc.heap.size 0)=some (.string ⟨#[]⟩):=(by simp[World.cell?,hzr]);have q1:wq.cell? (az wc.heap.size 1)=some (Iq 0):=(by simp[World.cell?,hzr]);have q2:wq.cell? (az wc.heap.size 2)=some (Iq 0):=(by simp[World.cell?,hzr]);have q3:wq.cell? (az wc.heap.size 3)=some (Iq 0):=(by simp[World.cell?,hzr]);have q4:wq.cell? (az wc.heap.size 4)=some (Iq 0):=(by simp[World.cell?,hzr]);have fr:∀j,wq.frozen? (az wc.heap.size j)=false:=(fun j=>frozen_of_row _ _ _ _ _ hzr);have HZR:=qH<|hzr;clear hzr)));all_goals(gi_wp2_with fail)
          all_goals(gi_meet)
          all_goals(first
            |exact⟨_,rfl,bq.size,heap_alloc_new _ _,bq.alloc bq.size _⟩
            |exact⟨_,rfl,CV,sQ HZR,((((bq.setCell (p:=(az wc.heap.size 0)) CV _).setCell (p:=(az wc.heap.size 1)) CV _).setCell (p:=(az wc.heap.size 2)) CV _).setCell (p:=(az wc.heap.size 3)) CV _).setCell (p:=(az wc.heap.size 4)) CV _⟩)
        case rest=>
          obtain⟨B,rfl,hB,hrow,Ib⟩:=hcut;have hsy:=Ib.size;have q0:wc.cell? (az B 0)=some (.string ⟨T.toArray⟩):=by simp[World.cell?,hrow]
          have q1:wc.cell? (az B 1)=some (Iq V):=by simp[World.cell?,hrow]
          have q2:wc.cell? (az B 2)=some (Iq 0):=by simp[World.cell?,hrow]
          have q3:wc.cell? (az B 3)=some (Iq N):=by simp[World.cell?,hrow]
          have q4:wc.cell? (az B 4)=some (Iq 0):=by simp[World.cell?,hrow]
          have fr:∀j,wc.frozen? (az B j)=false:=fun j=>frozen_of_row _ _ _ _ _ hrow;have bz:Bt wr ((wc.setCell (az B 2) (Iq a)).setCell (az B 4) (Iq e1)):=(Ib.setCell (p:=(az B 2)) hB _).setCell (p:=(az B 4)) hB _;have jz:=HJ pre wr _ none hJs (kx bz) (fun r e=>by cases e);have BF:pre.length<l.length+1:=by have :=congrArg List.length gV;rw[bf]at this;omega
          obtain⟨fn,tmps,assign,body,hy,hR⟩:=HY pre (cP l w a) _ jz BF;rw[Nl.out]at hy;dsimp only[Z_]at hy;have HR:=qH<|hR;clear hrow cwx hR jz;gi_wp2;refine⟨fun _=>by omega,HR.mono ?_⟩;clear HR hy;rintro e W3 (⟨rfl,MR,tP⟩|⟨rfl,JW⟩)
          · have pQ:=qH<|keepL_row tP (Dn bi bz);have zbC:=qH<|(tP.2.trans (bz.block Bw Ss)).trans hbw;have hE:(cP l w a).E=e1:=by rw[Nl.out]
            by_cases h3:e1=3
            · have HF:Hid (cK l w=pre++[cP l w a]):=by show _=_;rw[HE.out,<-gV.out,HX.out,if_pos (by rw[hE,h3])]
              clear hE;subst h3;gi_wp2;refine bodyPost_ret (results_none rfl _ _ _) rfl ?_;exact⟨⟨_,rfl⟩,.inl ⟨_,HF.symm,MR⟩⟩
            · have Kf:(cP l w a).E≠3:=by rw[hE];exact h3
              have QY:=Un Kf;have HF:Hid ((pre++[cP l w a])++cZ l w (oF l w a)=cZ l w 0):=by show _=_;rw[<-gV.out,HX.out,if_neg Kf];simp
              have hnx':=HNX.out;have _2:=qH<|hnx';rw[_2.out]at HF QY;clear hE Kf hnx';gi_wp2;go_roundw;case rel=>exact⟨a+n1+d1,pre++[cP l w a],by go_num,by omega,HF,pQ,zbC,MR⟩
              case measure=>simp[intOf];omega
          ·gi_wp2;refine bodyPost_ret (results_none rfl _ _ _) rfl ?_;exact⟨⟨_,rfl⟩,.inr ⟨_,trivial,JW⟩⟩
attribute[local go_sem] Oper.semAt_some
theorem GJ{Bw B}(hB:Bw<B)  W   l   o o'  (hl:B<=l) (h:W.heap[l]?=some o) (hc:o.isCells=false) (_:o.isWalk=false):lP Bw W (W.putObj l o'):=by have hg:=grownBy_putObj' W l o';have hls:=(aS.1 h).1;refine⟨fun k c fz e=>?_,hg.block Bw (by omega) (fun e=>by grind)⟩;refine(hg.block k (aS.1 e).1 (fun e'=>?_)).trans e;cases e';rw[h]at e;cases e;cases hc
theorem Cb  n  (hn:3<=n)  Bw Bs   s   w   l  (hl:cL (aZ s.data.toList)=l) (hs:s.size<=68719476736) (hw0:-9223372036854775808<=w) (eu:w<=9223372036854775807)  W0  (ht:dC W0)
 (hBw:W0.heap[Bw]?=some (.cells #[Iq w] 3 (0,0))) (Sr:W0.heap[Bs]?=some (.cells #[.string s] 9 (0,0))):
 SeqStopsK Fence.wide n prog 248 #[Pq Bw,Pq Bs] Z_ (lP Bw) (fun ys=>ys=cK l w) (fun _=>True) (l.length+1) W0:=fun k0 J Jx W hW hJ _ hY h0=>
 JI n hn k0 Bw Bs s w l hl hs hw0 eu J Jx W hJ hY (fun W' Zw=>(ht.below hW).below Zw)
  ((hW.block Bw (aS.1 hBw).1).trans hBw) ((hW.block Bs (aS.1 Sr).1).trans Sr) h0
theorem JJ(s:ByteArray)(w:Int)(W:World):
 Cw 226 #[.string s,Iq w] W fun e w'=>e=Rw (.func (.func 248) #[] #[Pq (W.heap.size+1),Pq W.heap.size])/\w'=(W.alloc (.cells #[.string s] 9)).alloc (.cells #[Iq w] 3):=by go_enter func226,ntmps226;go_wp2;go_ret;simp_all
theorem KG{W}{B Bw}{v v' x}(bG:Bw≠B)(hv:Boxed W B 3 v)(hw:Boxed W Bw 3 x):lP Bw W (W.setCell (az B 0) v')/\Boxed (W.setCell (az B 0) v') Bw 3 x:=by
 have hb:=Boxed.other hw bG v';refine⟨⟨fun j c fz e=>?_,hb.trans hw.symm⟩,hb⟩;have hjB:j≠B:=by rintro rfl;rw[show W.heap[j]?=_ from hv]at e;cases e
 rw[heap_setCell_other _ _ _ _ hjB];exact e
theorem FV(s:ByteArray)(w:Int)(W:World)(ht:dC W)(hs:s.size<=68719476736)(hw0:-9223372036854775808<=w)(eu:w<=9223372036854775807):
 Cw 204 #[.string s,Iq w] W fun e W'=>e=Rw (Iq (cK (cL (aZ s.data.toList)) w).length)/\Bt W W':=by
 have uM:s.data.toList.length=s.size:=by rw[j9];rfl
 have hR:=du s.data.toList;have hC:=fM (aZ s.data.toList);rw[uM]at hR;obtain⟨l,hl⟩:=aj (cL (aZ s.data.toList));rw[hl]at hC⊢;refine(callsIn_wide (n:=6)).1 ?_;refine callsIn_of_wp_marks func204 rfl trivial ?_ rfl;simp only[ntmps204,qm,fB,iS,Nat.reduceAdd,Nat.reduceSub,vC,vD,vF,vG,vH,tq];gi_wp2_with fail;refine⟨trivial,(callsIn_wide.2 (JJ s w _)).mono ?_⟩;rintro e w' ⟨rfl,rfl⟩;have bO:=Boxed.new W 3 (Iq 0);obtain⟨W0,dG⟩:=aj (((W.alloc (.cells #[Iq 0] 3)).alloc (.cells #[.string s] 9)).alloc (.cells #[Iq w] 3));have bO0:Boxed W0 W.heap.size 3 (Iq 0):=by rw[<-dG];exact(bO.alloc _).alloc _
 have bS0:Boxed W0 (W.heap.size+1) 9 (.string s):=by rw[<-dG];have:=Boxed.new (W.alloc (.cells #[Iq 0] 3)) 9 (.string s);rw[aO]at this;exact this.alloc _
 have bW0:Boxed W0 (W.heap.size+2) 3 (Iq w):=by rw[<-dG];have:=Boxed.new ((W.alloc (.cells #[Iq 0] 3)).alloc (.cells #[.string s] 9)) 3 (Iq w);rw[aO,aO]at this;exact this
 have Eu:Bt W W0:=by rw[<-dG];exact(((ag _ W).alloc (ai _) _).alloc (by simp) _).alloc (by simp;omega) _
 have fT:W0.heap.size=W.heap.size+3:=by rw[<-dG];simp
 have XY:=ht.below Eu;rw[aO,dG];gi_wp2;refine wpIn_rangeFunc_ownG rfl (by omega) (gf:=248) (lb:=#[Pq (W.heap.size+2),Pq (W.heap.size+1)]) rfl trivial (enters_of func248 (by kernel_rfl) rfl)
  (Cb 5 (by omega) (W.heap.size+2) (W.heap.size+1) s w l hl hs hw0 eu W0 XY bW0 bS0) lP.trans (GJ (by omega)) (ag _ _) (fun _=>rfl)
  (fun pre W'=>(Boxed W' W.heap.size 3 (Iq pre.length)/\Boxed W' (W.heap.size+2) 3 (Iq w))/\Bt W W')
  (fun _ _ _=>False)
  (OwnFrom.and (OwnFrom.and (Own.from (boxed_own W.heap.size 3 (fun pre:List Ln=>Iq (pre.length:Int))) _) (Own.from (boxed_own _ _ _) _)) (ownFrom_below (ai _) (by omega)))
  (fun _ _ _ _ _ hs _ _=>hs)
  ⟨⟨bO0,bW0⟩,Eu⟩
  (fun x=>{tmps:=#[.string s,Iq w,undef,undef,Iq 0,Pq W.heap.size,.string s,Iq w,.func (.func 248) #[] #[Pq (W.heap.size+2),Pq (W.heap.size+1)],.agg (gF x).toArray,undef,undef,undef],defers:=[]})
  ?assign ?body ?done ?stop;case assign=>rintro k0 ⟨T,V,F,N,E⟩ W' K hK;dsimp only[Z_,gF]at hK⊢;gi_wp2;simpa using hK
 case body=>rintro k0 pre x W' ⟨⟨hv,hbw⟩,hB⟩ hlt;have hc:=hv.cell;have hf:=hv.frozen;have Sr:=hB.size;gi_wp2;obtain⟨dD,Ox⟩:=KG (v':=Iq ((pre.length:Int)+1)) (by omega) hv hbw;exact⟨(KeepsOthers.setCell _ _ _).from _,dD,⟨by have:=hv.set (Iq ((pre.length:Int)+1));grind,Ox⟩,hB.setCell (p:=(az W.heap.size 0)) (ai _) _⟩
 case done=>rintro D ys W' hD rfl ⟨⟨hv,hbw⟩,hB⟩ hK;have hc:=hv.cell;gi_wp2;refine⟨by simp,.inl ⟨_,_,rfl,run_takeDeferred hK,?_⟩⟩;exact⟨_,results_tmp rfl _ _ _,rfl,hB.trans (belowK_b (w:=W) (ai _) W' D _ _ (by omega) hK rfl rfl)⟩
 case stop=>rintro D c pre W' _ _ h _;exact h.elim
attribute[local go_sem] Oper.semAt_some
def kj(id:Int)(aX off:Nat->Int):Nat->Int
 |0=>0
 |k+1=>if aX k=id then off k else kj id aX off k
def fw(id:Int)(aX off:Nat->Int)(n:Nat):Int:=if id=0 then 0 else kj id aX off n
def gK(n:Nat):List Nat:=(List.range n).reverse
theorem jG  n  :gK (n+1)=n::gK n:=by unfold gK;rw[ka,List.reverse_append];rfl
theorem sF  id   aX off  :∀  n k   pre,pre++gK k=gK n->k<=n->(∀i∈pre,aX i≠id)->kj id aX off n=kj id aX off k
 |0,k,pre,h,hk,_=>by grind
 |n+1,k,pre,h,hk,hp=>by
  by_cases e:k=n+1;·rw[e]
  ·rw[jG]at h;cases pre with
   |nil=>have:=congrArg List.length h;grind[gK]
   |cons a pre=>rw[tq]at h;injection h with h1 h2;have ha:=hp a (by simp);rw[h1]at ha;have hu:kj id aX off (n+1)=kj id aX off n:=if_neg ha;rw[hu];exact sF id aX off n k pre h2 (by omega) (fun i hi=>hp i (by simp[hi]))
def pH(W:World)(p:Option Addr)(n:Nat)(aX off:Nat->Int):Prop:=n=0\/∃b o,p=some (az b o)/\b<W.heap.size/\∀j,j<n->W.cell? (az b (o+j*2))=some (Iq (aX j))/\W.cell? (az b (o+j*2+1))=some (Iq (off j))
def m8(Bx:Nat)(p:Option Addr)(W W':World):Prop:=W'.heap[Bx]?=W.heap[Bx]?/\∀a:Addr,p=some a->W'.heap[a.block]?=W.heap[a.block]?
theorem m8.trans{Bx}{p}{A B C}(h:m8 Bx p A B)(k:m8 Bx p B C):m8 Bx p A C:=⟨k.1.trans h.1,fun a e=>(k.2 a e).trans (h.2 a e)⟩
theorem pH.keep{W W'}{Bx}{p}{n}{aX off}(h:pH W p n aX off)(hk:m8 Bx p W W'):pH W' p n aX off:=by
 rcases h with h|⟨b,o,e,h1,h2⟩;·exact .inl h
 ·have hb:W'.heap[b]?=W.heap[b]?:=hk.2 _ e;refine .inr ⟨b,o,e,?_,fun j hj=>⟨(bU (a:=(az b (o+j*2))) hb).trans (h2 j hj).1,(bU (a:=(az b (o+j*2+1))) hb).trans (h2 j hj).2⟩⟩;grind
theorem pH.below{W W'}{p}{n}{aX off}(h:pH W p n aX off)(hb:Bt W W'):pH W' p n aX off:=by
 rcases h with h|⟨b,o,e,h1,h2⟩;·exact .inl h
 ·exact .inr ⟨b,o,e,bn h1 hb.size,fun j hj=>⟨(hb.cell (p:=(az b _)) h1).trans (h2 j hj).1,(hb.cell (p:=(az b _)) h1).trans (h2 j hj).2⟩⟩
def scV(aX off:Nat->Int)(i:Nat):Array Value:=#[Iq (i:Int),.agg #[Iq (aX i),Iq (off i)]]
theorem vX(n:Nat)(hn:3<=n)(Bx N c:Nat)(p:Option Addr)(aX off:Nat->Int)(hN:N<=4611686018427387904)(W0:World)(hs:pH W0 p N aX off)(hx:W0.heap[Bx]?=some (.cells #[.slice p N c] 71 (0,0))):
 SeqStopsK Fence.wide n prog 174 #[Pq Bx] (scV aX off) (m8 Bx p) (fun xs=>xs=gK N) (fun pre=>∃k,k<=N/\pre++gK k=gK N) N W0:=by
 intro k0 J Jx W hW hJ hJx hY h0;have qG:=(hW.block Bx (aS.1 hx).1).trans hx;have cx:W.cell? (az Bx 0)=some (.slice p N c):=by simp[World.cell?,qG]
 have Uz:Hid (W.heap[Bx]?=some (.cells #[.slice p N c] 71 (0,0))/\pH W p N aX off):=⟨qG,hs.below hW⟩;have HY:=qH<|hY;have _K:=qH<|h0;refine callsIn_of_wp func174 rfl trivial ?_ rfl;simp only[ntmps174,qm,fB,iS,Nat.reduceAdd,Nat.reduceSub,vC,vD,vF,vG,vH,tq];gi_wp2;gi_loopw[3] (fun iv wr=>∃(k:Nat) (pre:List Nat),k<=N/\iv=Iq ((k:Int)-1)/\Hid (pre++gK k=gK N)/\Hid (wr.heap[Bx]?=some (.cells #[.slice p N c] 71 (0,0))/\pH wr p N aX off)/\Hid (J pre wr)) (fun iv _=>(intOf iv+1).toNat);case atStart=>grind
 case round=>
  obtain⟨k,pre,hk,rfl,gV,HX,RK⟩:=hrel;cases k with
  |zero=>gi_wp2;go_end0;exact⟨⟨_,rfl⟩,.inl ⟨_,by have:=gV.out;simp_all[gK],RK⟩⟩
  |succ i=>
   have ei:((i+1:Nat):Int)-1=(i:Int):=by omega
   rw[ei];have BF:pre.length<N:=by have h1:=congrArg List.length gV;rw[bf]at h1;simp[gK]at h1;omega
   have cx:wr.cell? (az Bx 0)=some (.slice p N c):=by simp[World.cell?,HX.1]
   obtain⟨b,o,rfl,tN,qB⟩:=HX.2.resolve_left (by omega);have c0:=(qB i (by omega)).1;have c1:=(qB i (by omega)).2;obtain⟨fn,tmps,assign,body,hy,hR⟩:=HY pre i wr RK BF;dsimp only[scV]at hy;have HR:=qH<|hR;have D4:Hid ((pre++[i])++gK i=gK N):=by show _=_;rw[<-gV.out,jG];simp
   gi_wp2;refine⟨fun _=>by omega,HR.mono ?_⟩;rintro e W3 (⟨rfl,MR,tP⟩|⟨rfl,JW⟩)
   ·have UA:Hid (W3.heap[Bx]?=some (.cells #[.slice (some (az b o)) N c] 71 (0,0))/\pH W3 (some (az b o)) N aX off):=⟨tP.1.trans HX.1,HX.2.keep tP⟩;gi_wp2;go_roundw;case rel=>grind
    case measure=>simp[intOf]<;>omega
   ·gi_wp2;refine bodyPost_ret (results_none rfl _ _ _) rfl ?_;exact⟨⟨_,rfl⟩,.inr ⟨_,⟨i,by omega,D4⟩,JW⟩⟩
theorem vY(p:Option Addr)(N c:Nat)(W:World):
 Cw 136 #[.slice p N c] W fun e w'=>e=Rw (.func (.func 174) #[] #[Pq W.heap.size])/\w'=W.alloc (.cells #[.slice p N c] 71):=by go_enter func136,ntmps136;go_wp2;go_ret;simp_all
theorem GK{Bx B}{p}(h0:Bx<B)(h1:∀a,p=some a->a.block<B)  W   l   o o'  (hl:B<=l) (_:W.heap[l]?=some o) (_:o.isCells=false) (_:o.isWalk=false):m8 Bx p W (W.putObj l o'):=
 ⟨World.putObj_heap_other (by omega),fun a e=>World.putObj_heap_other (by grind)⟩
theorem Jv{W:World}{B}{x y}{t}(h:W.heap[B]?=some (.cells #[x,y] t (0,0))):W.cell? (az B 0)=some x/\W.cell? (az B 1)=some y:=by simp[World.cell?,h]
theorem Dl(id:Int)(p:Option Addr)(N c:Nat)(aX off:Nat->Int)(U:World)(hs:pH U p N aX off)(hN:N<=4611686018427387904)(hp:∀a:Addr,p=some a->a.block<U.heap.size):
 Calls prog 102 #[Iq id,.slice p N c] U fun e U'=>e=.returned (Iq (fw id aX off N))/\Below U.heap.size U U':=by
 by_cases h0:id=0;·subst h0;have HR:Hid (fw 0 aX off N=0):=if_pos rfl;have HB:Hid (Below U.heap.size U ((U.alloc (.cells #[Iq 0] 3)).alloc (.cells #[Iq 0] 3))):=((ag _ U).alloc (ai _) _).alloc (by simp) _;go_enter func102,ntmps102;go_wp2;refine bodyPost_ret (v:=Iq 0) (by simp[results,Tryz.results102,go_sem]) rfl ⟨by rw[HR.out],HB⟩
 ·have HR:Hid (fw id aX off N=kj id aX off N):=if_neg h0;refine(callsIn_wide (n:=6)).1 ?_;refine callsIn_of_wp_marks func102 rfl trivial ?_ rfl;simp only[ntmps102,qm,fB,iS,Nat.reduceAdd,Nat.reduceSub,vC,vD,vF,vG,vH,tq];gi_wp2_with fail;refine⟨trivial,(callsIn_wide.2 (vY p N c _)).mono ?_⟩;rintro e w' ⟨rfl,rfl⟩;obtain⟨S,hS⟩:=aj U.heap.size;obtain⟨W0,dG⟩:=aj (((U.alloc (.cells #[Iq id] 3)).alloc (.cells #[Iq 0] 3)).alloc (.cells #[.slice p N c] 71));have bI:Boxed W0 S 3 (Iq id):=by rw[<-dG,<-hS];exact((Boxed.new U 3 (Iq id)).alloc _).alloc _
  have bR:Boxed W0 (S+1) 3 (Iq 0):=by rw[<-dG,<-hS];have:=Boxed.new (U.alloc (.cells #[Iq id] 3)) 3 (Iq 0);rw[aO]at this;exact this.alloc _
  have bX:Boxed W0 (S+2) 71 (.slice p N c):=by rw[<-dG,<-hS];have:=Boxed.new ((U.alloc (.cells #[Iq id] 3)).alloc (.cells #[Iq 0] 3)) 71 (.slice p N c);rw[aO,aO]at this;exact this
  have Eu:Below S U W0:=by rw[<-dG,<-hS];exact(((ag _ U).alloc (ai _) _).alloc (by simp) _).alloc (by simp;omega) _
  have fT:W0.heap.size=S+3:=by rw[<-dG];simp;omega
  have hsc:=hs.below (by subst hS;exact Eu);have EE:∀a:Addr,p=some a->a.block<S:=fun a e=>by grind
  rw[aO,aO,dG];gi_wp2;refine wpIn_rangeFunc_ownH rfl (by omega) (gf:=174) (lb:=#[Pq (S+1+1)]) rfl trivial (enters_of func174 (by kernel_rfl) rfl)
   (vX 5 (by omega) (S+1+1) N c p aX off hN W0 hsc bX) m8.trans (GK (by omega) (fun a e=>by grind)) (ag _ _) (fun _=>rfl)
   (fun pre W'=>(((Boxed W' S 3 (Iq id)/\Boxed W' (S+1) 3 (Iq 0))/\Boxed W' (S+1+1) 71 (.slice p N c))/\Below S U W')/\∀i∈pre,aX i≠id)
   (fun cd pre W'=>∃pr x,pre=pr++[x]/\aX x=id/\(∀i∈pr,aX i≠id)/\Boxed W' (S+1) 3 (Iq (off x))/\Below S U W'/\cd=.ret)
   (OwnFrom.and (OwnFrom.and (OwnFrom.and (OwnFrom.and (Own.from (boxed_own S 3 (fun _:List Nat=>Iq id)) _) (Own.from (boxed_own (S+1) 3 (fun _:List Nat=>Iq 0)) _)) (Own.from (boxed_own (S+1+1) 71 (fun _:List Nat=>Value.slice p N c)) _)) (ownFrom_below (by omega) (by omega))) (fun _ _ _ _ h _ _=>h))
   (fun cd pre A B row ⟨pr,x,e1,e2,e3,hb,hB,hc⟩ hg hr=>⟨pr,x,e1,e2,e3,(Own.from (boxed_own (S+1) 3 (fun _:Unit=>Iq (off x))) W0.heap.size) () A B row hb hg hr,(ownFrom_below (β:=Unit) (n₀:=S) (w₀:=U) (by omega) (by omega)) () A B row hB hg hr,hc⟩)
   ⟨⟨⟨⟨bI,bR⟩,bX⟩,Eu⟩,fun i hi=>by cases hi⟩
   (fun x a' W'=>∃Bx,W'.heap[Bx]?=some (.cells #[Iq (aX x),Iq (off x)] 116 (0,0))/\a'={tmps:=#[Iq id,.slice p N c,Pq S,undef,Pq (S+1),undef,Pq Bx,Iq id,.bool false,.slice p N c,.func (.func 174) #[] #[Pq (S+1+1)],Iq (x:Int),.agg #[Iq (aX x),Iq (off x)],undef,undef,undef,undef,undef,undef],defers:=[]})
   ?hAx ?assign ?body ?done ?stop;case hAx=>rintro x a' _ A B row ⟨Bx,h2,h3⟩ hg hr;refine⟨Bx,(hg.block Bx (aS.1 h2).1 (fun e=>?_)).trans h2,h3⟩;obtain⟨_,o,ho,hc⟩:=hr Bx e.symm;rw[h2]at ho;cases ho;cases hc
  case assign=>rintro k0 pre x W' K ⟨⟨⟨⟨h1,h2⟩,h3⟩,hB⟩,h4⟩ hK;dsimp only[scV]at hK⊢;have hkp:∀o,m8 (S+1+1) p W' (W'.alloc o):=fun o=>⟨fC _ _ _ h3.lt,fun a e=>fC _ _ _ (by have:=EE a e;have:=h1.lt;omega)⟩;gi_wp2;exact hK _ _ ((KeepsOthers.alloc _ _).from _) (hkp _) ⟨⟨⟨⟨h1.alloc _,h2.alloc _⟩,h3.alloc _⟩,hB.alloc (by have:=h1.lt;omega) _⟩,h4⟩ ⟨W'.heap.size,heap_alloc_new _ _,rfl⟩
  case body=>
   rintro k0 pre x a' W' U9 ⟨r,hr⟩ ⟨⟨⟨⟨h1,h2⟩,h3⟩,hB⟩,h4⟩ ⟨Bx,hx,rfl⟩ hlt;have c1:=h1.cell;have c2:=h2.cell;have f2:=h2.frozen;obtain⟨x0,x1⟩:=Jv hx;by_cases hid:aX x=id;·have HE:Hid (Boxed (W'.setCell (az (S+1) 0) (Iq (off x))) (S+1) 3 (Iq (off x))/\Below S U (W'.setCell (az (S+1) 0) (Iq (off x)))):=⟨h2.set _,hB.setCell (p:=(az (S+1) 0)) (by grind) _⟩;rw[hid]at x0;gi_wp2;exact⟨(KeepsOthers.setCell _ _ _).from _,pre,x,rfl,hid,h4,HE.1,HE.2,rfl⟩
   ·have e1:(aX x==id)=false:=by simpa using hid
    gi_wp2;exact⟨(KeepsOthers.refl _).from _,⟨rfl,fun _ _=>rfl⟩,⟨⟨⟨h1,h2⟩,h3⟩,hB⟩,fun i hi=>by grind⟩
  case done=>
   rintro D ys W' hD rfl ⟨⟨⟨⟨h1,h2⟩,h3⟩,hB⟩,h4⟩ hK;have c2:=h2.cell;have f2:=h2.frozen;have eZ:Hid (fw id aX off N=0):=by show _=_;rw[HR.out,sF id aX off N 0 (gK N) (by simp[gK]) (bc _) h4];rfl
   have hK2:(W'.setCell (az (S+1) 0) (Iq 0)).heap[D]?=some (.deferred (some [])):=(cF W' (az (S+1) 0) _ D (by grind)).trans hK;have gU:=(h2.set (Iq 0)).kept (grownBy_putObj' _ D (.deferred none)) (by grind);have tv:=gU.cell;have Ue:Hid (Below S U ((W'.setCell (az (S+1) 0) (Iq 0)).putObj D (.deferred none))):=(hB.setCell (p:=(az (S+1) 0)) (by grind) _).trans (belowK_b (w:=U) (by omega) _ D _ _ (by omega) hK2 rfl rfl);gi_wp2;refine⟨by simp,.inl ⟨_,_,rfl,run_takeDeferred hK2,?_⟩⟩;exact⟨Iq 0,by simp[results,Tryz.results102,go_sem,tv],by rw[eZ.out],by rw[hS];exact Ue⟩
  case stop=>
   rintro D cd pre W' hD ⟨k,hk,gV⟩ ⟨pr,x,e1,e2,e3,hb,hB,rfl⟩ hK;have eZ:Hid (fw id aX off N=off x):=by
    show _=_;have hq:pr++gK (k+1)=gK N:=by
     have:=gV;rw[e1]at this;have hx:x=k:=by
      have h9:∀(n:Nat) (pr:List Nat) (x k:Nat),(pr++[x])++gK k=gK n->x=k:=by
       intro n;induction n with
       |zero=>simp_all[gK]
       |succ n ih=>
        intro pr x k h;rw[jG]at h;cases pr with
        |nil=>simp at h;have:=congrArg List.length h.2;grind[gK]
        |cons a pr=>grind
      exact h9 N pr x k this
     rw[jG,<-hx];rw[<-hx]at this;simpa using this
    have U8:k+1<=N:=by have:=congrArg List.length hq;simp[gK]at this;omega
    have hxk:x=k:=by
     have h1:=gV;rw[e1]at h1;have h2:pr++(x::gK k)=pr++(k::gK k):=by rw[jG]at hq;rw[hq,<-h1];simp
     have:=List.append_cancel_left h2;injection this
    rw[HR.out,sF id aX off N (k+1) pr hq U8 e3];show(if aX k=id then off k else kj id aX off k)=off x;rw[<-hxk,if_pos e2]
   have gU:=hb.kept (grownBy_putObj' W' D (.deferred none)) (by grind);have tv:=gU.cell;gi_wp2;refine⟨by simp,.inl ⟨_,_,rfl,run_takeDeferred hK,?_⟩⟩;exact⟨Iq (off x),by simp[results,Tryz.results102,go_sem,tv],by rw[eZ.out],by rw[hS];exact hB.trans (belowK_b (w:=U) (by omega) W' D _ _ (by omega) hK rfl rfl)⟩
end
theorem Lt(sp:Option Addr)(sn sc:Nat)(aX off:Nat->Int)(id:Int)(U:World)(hsc:pH U sp sn aX off)(EG:sn<=4611686018427387904):
 Cw 121 #[.slice sp sn sc,Iq id] U fun e w'=>e=Rw (Iq (fw id aX off sn))/\w'=U:=by
 have HS:=qH<|hsc;clear hsc;go_enter func121,ntmps121;go_wp2;go_loop[5,6] (fun o i=>∃j:Nat,j<=sn/\i=Iq (j:Int)/\o=Iq (fw id aX off j)) (fun _ i=>sn-(intOf i).toNat);case atStart=>grind[fw,kj]
 case round=>
  obtain⟨j,hj,rfl,rfl⟩:=hrel;by_cases hlt:j<sn
  ·have aK:(j:Int)<(sn:Int):=by omega
   obtain⟨b,o,rfl,_,hc⟩:=HS.resolve_left (by omega);obtain⟨c0,c1⟩:=hc j hlt;obtain⟨x,hx⟩:=aj (aX j);obtain⟨y,hy⟩:=aj (off j);have HN:Hid (fw id aX off (j+1)=if id=0 then 0 else if x=id then y else fw id aX off j):=by
    show _=_;unfold fw;by_cases q:id=0;·omega
    ·grind[kj]
   have HZ:Hid (id=0->fw id aX off j=0):=fun q=>by grind[fw]
   rw[hx]at c0;rw[hy]at c1;generalize fw id aX off j=z at HN HZ;clear hc hx hy;by_cases q0:id=0
   ·have e0:(id !=0)=false:=by rw[q0];rfl
    rw[if_pos q0]at HN;have HZ2:=qH<|HZ q0;clear q0 HZ;go_wp2;go_round;case rel=>exact⟨j+1,by omega,by go_num,by rw[HN.out,HZ2.out]⟩
    case measure=>simp[intOf];omega
   ·have e0:(id !=0)=true:=by simpa using q0
    rw[if_neg q0]at HN;by_cases q1:x=id
    ·have e1:(x==id)=true:=by simpa using q1
     rw[if_pos q1]at HN;clear q0 q1 HZ;go_wp2;go_round;case rel=>exact⟨j+1,by omega,by go_num,by rw[HN.out]⟩
     case measure=>simp[intOf];omega
    ·have e1:(x==id)=false:=by simpa using q1
     rw[if_neg q1]at HN;clear q0 q1 HZ;go_wp2;go_round;case rel=>exact⟨j+1,by omega,by go_num,by rw[HN.out]⟩
     case measure=>simp[intOf];omega
  ·have aK:¬(j:Int)<(sn:Int):=by omega
   obtain rfl:j=sn:=by omega
   go_wp2;go_ret;simp_all
