import Derived.Test.YtadhgppeafpdgaaGreatDoorQ00
import Derived.RangeFuncNested
import Derived.RangeFuncBound
import Derived.Shelf.Abstract
import Derived.Shelf.RegionOpen
import Derived.WalkKit
import Derived.OwnWalkIn
import Derived.LoopNIn
import Derived.LoopIn
import Derived.Sort.CutIn
import Derived.Test.YtadhgppeafpdgaaGreatDoorQ31
import Derived.Test.YtadhgppeafpdgaaGreatDoorQ01
set_option linter.all false
set_option maxRecDepth 100000
set_option maxHeartbeats 16000000
namespace Go.Proofs.YtadhgppeafpdgaaGreatDoor
open Go.RowKit Go.Proofs.Tryz
section
open Go.Shelf
attribute[local go_sem] Oper.semAt_some
def jK(Bw:Nat)(W W':World):Prop:=(∀(k:Nat) (c:Array Value) (fz:Nat×Nat),W.heap[k]?=some (.cells c 57 fz)->W'.heap[k]?=some (.cells c 57 fz))/\W'.heap[Bw]?=W.heap[Bw]?
theorem jK.trans{Bw}{A B C}(h:jK Bw A B)(k:jK Bw B C):jK Bw A C:=⟨fun i c fz e=>k.1 i c fz (h.1 i c fz e),k.2.trans h.2⟩
theorem keepL_row{Bw}{W W'}(h:jK Bw W W'){B n}{v}{xs}(ho:W.ownsRow B 57 2 v n xs):W'.ownsRow B 57 2 v n xs:=by refine⟨ho.1,ho.2.imp id ?_⟩;rintro⟨g,cap,cM,e1,e2,e3,e4⟩;exact⟨g,cap,cM,e1,e2,h.1 g cM _ e3,e4⟩
theorem lj{W W'}(h:Bt W W'):W.grownBy W' none:=⟨h.os,h.tape,h.output,h.size,fun k hk _=>h.block k hk⟩
theorem C9{w}{B}{v}{l}(h:w.ownsRow B 57 2 v l.length (dN l)):ol w v l:=(Bd h).clsC
theorem FM{w w'}{B n}{e}{v}{xs}(h:w.ownsRow B e 2 v n xs)(hb:Bt w w'):w'.ownsRow B e 2 v n xs:=by refine⟨h.1,h.2.imp id ?_⟩;rintro⟨g,cap,cM,e1,e2,e3,e4⟩;exact⟨g,cap,cM,e1,e2,(hb.block g (az.1 e3).1).trans e3,e4⟩
theorem NJ{w}{b off cap a n}{l:List (List UInt8×Int)}(hn:a+n<=l.length)(un:l.length<=cap)(uw:cap<=maxLen)(hb:b<w.heap.size)(hc:∀j (hj:j<l.length),w.cell? (aq b (off+j*2))=some (.string ⟨(l[j]).1.toArray⟩)/\w.cell? (aq b (off+j*2+1))=some (Iq (l[j]).2)):
 ol w (.slice (if cap=a then some (aq b off)else some (aq b (off+a*2))) n (cap-a)) ((l.drop a).take n):=by
 have hl:((l.drop a).take n).length=n:=by rw[bU,dL];omega
 refine⟨_,_,by rw[hl],by rw[hl];omega,by omega,?_⟩;by_cases e:cap=a;·grind
 ·right;rw[if_neg e];grind
def lnV(x:Ln):Array Value:=#[.agg #[.string ⟨x.T.toArray⟩,Iq x.W,Iq x.F,Iq x.N,Iq x.E]]
theorem N4(n:Nat)(hn:3<=n)(k0 Bw Bs:Nat)(s:ByteArray)(w:Int)(l:List (List UInt8×Int))(hl:bi (ap s.data.toList)=l)(hs:s.size<=68719476736)(hw0:-9223372036854775808<=w)(iO:w<=9223372036854775807)(J Jx:List Ln->World->Prop)(W:World)
    (hJ:AbidesFrom W.heap.size J)
    (hY:∀bF x W1,J bF W1->bF.length<l.length+1->YieldAt Fence.wide (n-1) prog k0 (lnV x) W1 fun e W'=>
      (e=Rw (.bool true)/\J (bF++[x]) W'/\jK Bw W1 W')\/(e=Rw (.bool false)/\Jx (bF++[x]) W'))
    (ht:∀W',Bt W W'->aL W')
    (hBw:W.heap[Bw]?=some (.cells #[Iq w] 3 (0,0))) (Tg:W.heap[Bs]?=some (.cells #[.string s] 9 (0,0))) (h0:J [] W):
    CallsIn Fence.wide n prog 241 #[.func (.yield k0) #[] #[],Pq Bw,Pq Bs] W fun e W'=>(∃v,e=Rw v)/\
      ((∃ys,ys=bG l w/\J ys W')\/(∃bF,True/\Jx bF W')):=by
  have pR:s.data.toList.length=s.size:=by rw[gc];rfl
  have hR:=bp s.data.toList;have hC:=cu (ap s.data.toList);have hbd:=gB (ap s.data.toList);have hsh:=tU (ap s.data.toList);rw[pR]at hR;rw[hl]at hC hbd hsh;have cw:W.cell? (aq Bw 0)=some (Iq w):=by simp[World.cell?,hBw]
  have cs:W.cell? (aq Bs 0)=some (.string s):=by simp[World.cell?,Tg]
  have HBw:=qH<|hBw;have kZ:=qH<|hbd;have HSH:=qH<|hsh;have HL:=qH<|hl;have HT:=qH<|ht;have HJ:=qH<|hJ;have HY:=qH<|hY;clear hBw Tg hbd hsh hl ht hJ hY pR;refine callsIn_of_wp func241 rfl trivial ?_ rfl;simp only[ntmps241,kQ,cP,fh,Nat.reduceAdd,Nat.reduceSub,rV,rW,rX,rY,pL,ny];by_cases hlt:w<1
  · have HE:Hid (bG l w=[]):=by show _=_;rw[bG,if_pos hlt]
    gi_wp2;refine bodyPost_ret (results_none rfl _ _ _) rfl ?_;exact⟨⟨_,rfl⟩,.inl ⟨[],HE.symm,h0⟩⟩
  have HE:Hid (bG l w=fD l w 0):=by show _=_;rw[bG,if_neg hlt]
  have TQ:1<=w:=by omega
  have G:Hid (Cw 167 #[.string s] W fun e w'=>∃v,e=Rw v/\w'.ownsRow W.heap.size 57 2 v l.length (dN l)/\Bt W w'):=by have :=e_ s W (HT W (ag _ _)) (by omega);rw[HL.out]at this;exact this
  gi_wp2_with fail;refine⟨trivial,fun _=>by omega,(callsIn_wide.2 G).mono ?_⟩;rintro e w1 ⟨v1,rfl,o1,b1⟩;have HO1:=qH<|o1;have j1:=HJ.out [] W w1 none h0 (lj b1) (fun r e=>by cases e);have zf0:=(az.1 HBw).1;have zcP:=qH<|(b1.block Bw zf0).trans HBw;have hs1:=b1.size;obtain⟨a1,cap,rfl,un,uw,_b⟩:=C9 o1;clear G HBw cw cs o1 _b;gi_wp2;gi_loopw[5] (fun p wr=>∃(a:Nat) (bF:List Ln),p=Iq a/\a<=l.length/\Hid (bF++fD l w a=fD l w 0)/\Hid (wr.ownsRow W.heap.size 57 2 (.slice a1 l.length cap) l.length (dN l))/\Hid (wr.heap[Bw]?=some (.cells #[Iq w] 3 (0,0)))/\J bF wr) (fun p _=>l.length-(intOf p).toNat);case atStart=>exact⟨0,[],rfl,bm _,rfl,HO1,zcP,j1⟩
  case round=>
    obtain⟨a,bF,rfl,ha,mQ,bC,b_,hJs⟩:=hrel;have cw:wr.cell? (aq Bw 0)=some (Iq w):=by have :=b_.out;simp[World.cell?,this]
    have X0:=(az.1 b_).1;clear j1 HO1 zcP b1;have iD:(l=[]/\a1=none/\cap=0)\/∃b,a1=some (aq b 0):=by
      rcases bC.2 with⟨e1,e2⟩|⟨g,cp,cM,e1,_⟩;·grind
      ·grind
    have zq:(a:Int)<=(l.length:Int):=by omega
    have _h:(l.length:Int)<=(cap:Int):=by omega
    rcases iD with⟨e1,rfl,rfl⟩|⟨b,rfl⟩
    · have sV:prog.follows .mixedOrders=true:=by kernel_rfl
      have TB:l.length=0:=by rw[e1];rfl
      obtain rfl:a=0:=by omega
      have hLn:fN l w 0=⟨[],0,0,0,3⟩:=by
        rw[e1];have h1:¬w<0:=by omega
        simp[fN,aS,dI,aK,aj,h1]
      have So:=qH<|hLn;have HF:Hid (bG l w=bF++[fN l w 0]):=by show _=_;rw[HE.out,<-mQ.out,nU (bm _) (by rw[hLn])]
      have Hv:bF.length<l.length+1:=by have :=congrArg List.length mQ;have h2:=(gK l w 0 (bm _)).1;rw[aI]at this;omega
      have Yk:∀w',ol w' (.slice none 0 0) []:=fun w'=>⟨none,0,rfl,ae _,bm _,.inl rfl⟩;have Zx:Hid (Cw 242 #[.slice none 0 0,Iq w] wr.drew fun e w'=>e=Rw (.tuple #[Iq 0,Iq 0,Iq 3])/\Bt wr w'):=by refine(m6 [] _ w wr.drew (Yk _) (by simp) (by simp) TQ iO).mono ?_;rintro e w2 ⟨rfl,b2⟩;exact⟨by simp[aS,dI],((ag wr.heap.size wr).drew).trans b2⟩
      have Xp:Hid (∀w',Cw 243 #[.slice none 0 0,Iq w] w' fun e w2=>e=Rw (.agg #[.string ⟨#[]⟩,Iq 0,Iq 0,Iq 0,Iq 0])/\Bt w' w2):=by
        intro w';refine(uO [] _ w w' (Yk w').cls (by simp) (by simp) (by simp[aK]) TQ (fun h=>by grind[aj])).mono ?_;rintro e w2 ⟨rfl,b2⟩;refine⟨?_,b2⟩;have h1:¬w<0:=by omega
        simp[rx,Pp,aK,aj,h1]
      rw[TB];clear hLn Yk;gi_wp2_with fail;gi_cut[6,7,8]from 14 (fun x y z wx=>x=Iq 0/\y=Iq 0/\z=Iq 3/\Bt wr wx);case first=>
        gi_region_with_o(refine⟨trivial,fun _=>by omega,(callsIn_wide.2 Zx).mono ?_⟩;rintro e wq ⟨rfl,bq⟩);all_goals(gi_wp2_with fail)
        all_goals(gi_meet)
        grind
      case rest=>
        obtain⟨rfl,rfl,rfl,bx⟩:=hcut;have Fb:=bx.size;have cwx:=(bx.cell (p:=(aq Bw 0)) X0).trans cw;have zfZ:Bw<wc.heap.size:=by omega
        have zf1:¬Bw=wc.heap.size:=by omega
        clear cw Zx;gi_wp2_with fail;gi_cut[9]from 14 (fun p wx=>∃B,p=Pq B/\wr.heap.size<=B/\wx.heap[B]?=some (.cells #[.string ⟨#[]⟩,Iq 0,Iq 0,Iq 0,Iq 0] 277 (0,0))/\Bt wr wx);case first=>
          have Xo:Hid (∀w',(w'=wc.drew\/w'=(wc.alloc (.cells #[.string ⟨#[]⟩,Iq 0,Iq 0,Iq 0,Iq 0] 277)).drew)->Cw 243 #[.slice none 0 0,Iq w] w' fun e w2=>e=Rw (.agg #[.string ⟨#[]⟩,Iq 0,Iq 0,Iq 0,Iq 0])/\Bt wr w2/\
              (w'=(wc.alloc (.cells #[.string ⟨#[]⟩,Iq 0,Iq 0,Iq 0,Iq 0] 277)).drew->wc.heap.size<w2.heap.size/\w2.heap[wc.heap.size]?=some (.cells #[.string ⟨#[]⟩,Iq 0,Iq 0,Iq 0,Iq 0] 277 (0,0)))):=by
            intro w' hw';have Kr:Bt wr w':=by
              rcases hw' with rfl|rfl;·exact bx.drew
              ·exact(bx.alloc Fb _).drew
            refine(Xp w').mono ?_;rintro e w2 ⟨rfl,b2⟩;refine⟨rfl,Kr.trans (b2.mono Kr.size),?_⟩;rintro rfl;have zu:wc.heap.size<(wc.alloc (.cells #[.string ⟨#[]⟩,Iq 0,Iq 0,Iq 0,Iq 0] 277)).drew.heap.size:=by show wc.heap.size<(wc.alloc _).heap.size;rw[aA];omega
            exact⟨zz007 zu b2.size,(b2.block _ zu).trans (heap_alloc_new wc _)⟩
          have HLA:Hid (Cw 243 #[.slice none 0 0,Iq w] wc.drew fun e w2=>e=Rw (.agg #[.string ⟨#[]⟩,Iq 0,Iq 0,Iq 0,Iq 0])/\Bt wr w2):=by refine(Xo _ (Or.inl rfl)).mono ?_;rintro e w2 ⟨h1,h2,_⟩;exact⟨h1,h2⟩
          have ZB:Hid (Cw 243 #[.slice none 0 0,Iq w] (wc.alloc (.cells #[.string ⟨#[]⟩,Iq 0,Iq 0,Iq 0,Iq 0] 277)).drew fun e w2=>e=Rw (.agg #[.string ⟨#[]⟩,Iq 0,Iq 0,Iq 0,Iq 0])/\Bt wr w2/\wc.heap.size<w2.heap.size/\w2.heap[wc.heap.size]?=some (.cells #[.string ⟨#[]⟩,Iq 0,Iq 0,Iq 0,Iq 0] 277 (0,0))):=by refine(Xo _ (Or.inr rfl)).mono ?_;rintro e w2 ⟨h1,h2,h3⟩;exact⟨h1,h2,(h3 rfl).1,(h3 rfl).2⟩
          clear Xp Xo;gi_region_with_o(refine⟨trivial,fun _=>by omega,?_⟩;(first|(refine(callsIn_wide.2 HLA).mono ?_;rintro e wq ⟨rfl,bq⟩)|(refine(callsIn_wide.2 ZB).mono ?_;rintro e wq ⟨rfl,bq,_E,hzr⟩;have q0:wq.cell? (aq wc.heap.size 0)=some (.string ⟨#[]⟩):=(by simp[World.cell?,hzr]);have q1:wq.cell? (aq wc.heap.size 1)=some (Iq 0):=(by simp[World.cell?,hzr]);have q2:wq.cell? (aq wc.heap.size 2)=some (Iq 0):=(by simp[World.cell?,hzr]);have q3:wq.cell? (aq wc.heap.size 3)=some (Iq 0):=(by simp[World.cell?,hzr]);have q4:wq.cell? (aq wc.heap.size 4)=some (Iq 0):=(by simp[World.cell?,hzr]);have fr:∀j,wq.frozen? (aq wc.heap.size j)=false:=(fun j=>frozen_of_row _ _ _ _ _ hzr);have HZR:=qH<|hzr;clear hzr)));all_goals(gi_wp2_with fail)
          all_goals(gi_meet)
          all_goals(first
            |exact⟨_,rfl,bq.size,heap_alloc_new _ _,bq.alloc bq.size _⟩
            |exact⟨_,rfl,Fb,UW HZR,((((bq.setCell (p:=(aq wc.heap.size 0)) Fb _).setCell (p:=(aq wc.heap.size 1)) Fb _).setCell (p:=(aq wc.heap.size 2)) Fb _).setCell (p:=(aq wc.heap.size 3)) Fb _).setCell (p:=(aq wc.heap.size 4)) Fb _⟩)
        case rest=>
          obtain⟨B,rfl,hB,hrow,RF⟩:=hcut;have hsy:=RF.size;have q0:wc.cell? (aq B 0)=some (.string ⟨#[]⟩):=by simp[World.cell?,hrow]
          have q1:wc.cell? (aq B 1)=some (Iq 0):=by simp[World.cell?,hrow]
          have q2:wc.cell? (aq B 2)=some (Iq 0):=by simp[World.cell?,hrow]
          have q3:wc.cell? (aq B 3)=some (Iq 0):=by simp[World.cell?,hrow]
          have q4:wc.cell? (aq B 4)=some (Iq 0):=by simp[World.cell?,hrow]
          have fr:∀j,wc.frozen? (aq B j)=false:=fun j=>frozen_of_row _ _ _ _ _ hrow;have bz:Bt wr ((wc.setCell (aq B 2) (Iq 0)).setCell (aq B 4) (Iq 3)):=(RF.setCell (p:=(aq B 2)) hB _).setCell (p:=(aq B 4)) hB _;have jz:=HJ bF wr _ none hJs (lj bz) (fun r e=>by cases e);obtain⟨fn,tmps,assign,body,hy,hR⟩:=HY bF (fN l w 0) _ jz Hv;rw[So.out]at hy;change(Instr.yield k0 #[.agg #[.string ⟨#[]⟩,Iq 0,Iq 0,Iq 0,Iq 3]]).run prog _=_ at hy;have HR:=qH<|hR;clear hrow cwx hR jz;gi_wp2;refine⟨fun _=>by omega,HR.mono ?_⟩;clear HR hy;rintro e W3 (⟨rfl,RK,wD⟩|⟨rfl,Oj⟩);·gi_wp2;refine bodyPost_ret (results_none rfl _ _ _) rfl ?_;exact⟨⟨_,rfl⟩,.inl ⟨_,HF.symm,RK⟩⟩
          ·gi_wp2;refine bodyPost_ret (results_none rfl _ _ _) rfl ?_;exact⟨⟨_,rfl⟩,.inr ⟨_,trivial,Oj⟩⟩
    · have sV:prog.follows .mixedOrders=true:=by kernel_rfl
      have qj:=xx (l.drop a) w;rw[dL]at qj;have HX:Hid (fD l w a=if(fN l w a).E=3 then[fN l w a]else fN l w a::fD l w (Me l w a)):=by
        show _=_;by_cases h:(fN l w a).E=3;·grind[nU]
        ·grind[ry]
      have HNL:=qH<|nxt_lt l w a;have HNX:Hid (Me l w a=a+(aS (l.drop a) w).n+(aS (l.drop a) w).d):=rfl;have hlA:=(gK l w a ha).1;have zon:=(gK l w 0 (bm _)).2;have hcl:∀w',Bt wr w'->∀n,a+n<=l.length->ol w' (.slice (if cap=a then some (aq b 0)else some (aq b (a*2))) n (cap-a)) ((l.drop a).take n):=by
        intro w' hb n hn;obtain⟨a',cH,e1,_,_,hh⟩:=(C9 bC).below hb;cases e1;rcases hh with hh|⟨b',Y_,e2,sr,Yh⟩
        · subst hh;have e0:n=0:=by simp at hn;omega
          subst e0;exact⟨_,_,rfl,by simp,by omega,.inl (by simp)⟩
        ·cases e2;grind[NJ]
      have HCL:=qH<|hcl;have hFL:Cw 242 #[.slice (if cap=a then some (aq b 0)else some (aq b (a*2))) (l.length-a) (cap-a),Iq w] wr.drew fun e w'=>e=Rw (.tuple #[Iq (aS (l.drop a) w).n,Iq (aS (l.drop a) w).d,Iq (aS (l.drop a) w).e])/\Bt wr w':=by have h1:=hcl wr.drew ((ag _ _).drew) (l.length-a) (by omega);rw[im (by grind)]at h1;refine(m6 (l.drop a) _ w wr.drew h1 (fun c hc=>kZ c (l8 hc)) (by grind) TQ iO).mono ?_;rintro e w2 ⟨rfl,b2⟩;exact⟨rfl,((ag wr.heap.size wr).drew).trans b2⟩
      have Xp:Hid (∀w' v,Ag w' v ((l.drop a).take (aS (l.drop a) w).n)->Cw 243 #[v,Iq w] w' fun e w2=>e=Rw (rx ((l.drop a).take (aS (l.drop a) w).n) w)/\Bt w' w2):=by
        intro w' v hv;have dE:∀c∈(l.drop a).take (aS (l.drop a) w).n,0<=c.2/\c.2<=2:=fun c hc=>kZ c (l8 (nt hc));have uu:((l.drop a).take (aS (l.drop a) w).n).length<=l.length:=by rw[bU,dL];omega
        have L5:=qr _ (fun c hc=>HSH c (l8 (nt hc)):∀c∈(l.drop a).take (aS (l.drop a) w).n,c.1.length<=20);have jD:=(dp _ dE ((l.drop a).take (aS (l.drop a) w).n).length).2;rw[l6]at jD;exact uO _ v w w' hv dE (by omega) (by omega) TQ (fun _=>by omega)
      have ZC:Hid (∃(T:List UInt8) (V:Int) (N:Nat),rx ((l.drop a).take (aS (l.drop a) w).n) w=.agg #[.string ⟨T.toArray⟩,Iq V,Iq 0,Iq N,Iq 0]/\fN l w a=⟨T,V,a,N,(aS (l.drop a) w).e⟩):=by
        by_cases OW:w<aj ((l.drop a).take (aS (l.drop a) w).n);·exact⟨List.replicate w.toNat 32,w,1,by rw[rx,if_pos OW];rfl,by grind[fN]⟩
        ·exact⟨aK ((l.drop a).take (aS (l.drop a) w).n),aj ((l.drop a).take (aS (l.drop a) w).n),((l.drop a).take (aS (l.drop a) w).n).length,by rw[rx,if_neg OW];rfl,by grind[fN]⟩
      obtain⟨n1,zv⟩:=af ((aS (l.drop a) w).n);obtain⟨d1,E5⟩:=af ((aS (l.drop a) w).d);obtain⟨e1,Z_⟩:=af ((aS (l.drop a) w).e);rw[zv,E5,Z_]at hFL;rw[zv]at Xp;rw[zv,Z_]at ZC;rw[zv,E5]at HNX qj;have Zx:=qH<|hFL;obtain⟨pp,hpp⟩:=af (if cap=a then some ((aq b 0):Addr)else some (aq b (a*2)));rw[hpp]at Zx HCL;clear hFL hcl zv E5 Z_;gi_wp2_with fail;gi_cut[6,7,8]from 14 (fun x y z wx=>x=Iq n1/\y=Iq d1/\z=Iq e1/\Bt wr wx);case first=>
        gi_region_with_o(refine⟨trivial,fun _=>by omega,(callsIn_wide.2 Zx).mono ?_⟩;rintro e wq ⟨rfl,bq⟩);all_goals(gi_wp2_with fail)
        all_goals(gi_meet)
        grind
      case rest=>
        obtain⟨rfl,rfl,rfl,bx⟩:=hcut;have Fb:=bx.size;have cwx:=(bx.cell (p:=(aq Bw 0)) X0).trans cw;have zfZ:Bw<wc.heap.size:=by omega
        have zf1:¬Bw=wc.heap.size:=by omega
        clear cw Zx;obtain⟨T,V,N,ri,hln⟩:=ZC.out;rw[ri]at Xp;have So:=qH<|hln;have hwr:IntKind.i64.wrap ((a:Int)+(n1:Int))=(a:Int)+(n1:Int):=by exact IntWalk.i64_in _ ⟨by omega,by omega⟩
        have lA:(0:Int)<=(a:Int)+(n1:Int):=by omega
        have nT:(a:Int)+(n1:Int)<=(cap:Int):=by omega
        have hq3:((a:Int)+(n1:Int)).toNat=a+n1:=by omega
        clear ZC ri hln;gi_wp2_with fail;gi_cut[9]from 14 (fun p wx=>∃B,p=Pq B/\wr.heap.size<=B/\wx.heap[B]?=some (.cells #[.string ⟨T.toArray⟩,Iq V,Iq 0,Iq N,Iq 0] 277 (0,0))/\Bt wr wx);case first=>
          have Xo:Hid (∀w',(w'=wc.drew\/w'=(wc.alloc (.cells #[.string ⟨#[]⟩,Iq 0,Iq 0,Iq 0,Iq 0] 277)).drew)->Cw 243 #[.slice pp n1 (cap-a),Iq w] w' fun e w2=>e=Rw (.agg #[.string ⟨T.toArray⟩,Iq V,Iq 0,Iq N,Iq 0])/\Bt wr w2/\
              (w'=(wc.alloc (.cells #[.string ⟨#[]⟩,Iq 0,Iq 0,Iq 0,Iq 0] 277)).drew->wc.heap.size<w2.heap.size/\w2.heap[wc.heap.size]?=some (.cells #[.string ⟨#[]⟩,Iq 0,Iq 0,Iq 0,Iq 0] 277 (0,0)))):=by
            intro w' hw';have Kr:Bt wr w':=by
              rcases hw' with rfl|rfl;·exact bx.drew
              ·exact(bx.alloc Fb _).drew
            refine(Xp w' _ (HCL w' Kr n1 (by omega)).cls).mono ?_;rintro e w2 ⟨rfl,b2⟩;refine⟨rfl,Kr.trans (b2.mono Kr.size),?_⟩;rintro rfl;have zu:wc.heap.size<(wc.alloc (.cells #[.string ⟨#[]⟩,Iq 0,Iq 0,Iq 0,Iq 0] 277)).drew.heap.size:=by show wc.heap.size<(wc.alloc _).heap.size;rw[aA];omega
            exact⟨zz007 zu b2.size,(b2.block _ zu).trans (heap_alloc_new wc _)⟩
          have HLA:Hid (Cw 243 #[.slice pp n1 (cap-a),Iq w] wc.drew fun e w2=>e=Rw (.agg #[.string ⟨T.toArray⟩,Iq V,Iq 0,Iq N,Iq 0])/\Bt wr w2):=by refine(Xo _ (Or.inl rfl)).mono ?_;rintro e w2 ⟨h1,h2,_⟩;exact⟨h1,h2⟩
          have ZB:Hid (Cw 243 #[.slice pp n1 (cap-a),Iq w] (wc.alloc (.cells #[.string ⟨#[]⟩,Iq 0,Iq 0,Iq 0,Iq 0] 277)).drew fun e w2=>e=Rw (.agg #[.string ⟨T.toArray⟩,Iq V,Iq 0,Iq N,Iq 0])/\Bt wr w2/\wc.heap.size<w2.heap.size/\w2.heap[wc.heap.size]?=some (.cells #[.string ⟨#[]⟩,Iq 0,Iq 0,Iq 0,Iq 0] 277 (0,0))):=by refine(Xo _ (Or.inr rfl)).mono ?_;rintro e w2 ⟨h1,h2,h3⟩;exact⟨h1,h2,(h3 rfl).1,(h3 rfl).2⟩
          clear Xp HCL Xo;gi_region_with_o(refine⟨trivial,fun _=>by omega,?_⟩;(first|(refine(callsIn_wide.2 HLA).mono ?_;rintro e wq ⟨rfl,bq⟩)|(refine(callsIn_wide.2 ZB).mono ?_;rintro e wq ⟨rfl,bq,_E,hzr⟩;have q0:wq.cell? (aq wc.heap.size 0)=some (.string ⟨#[]⟩):=(by simp[World.cell?,hzr]);have q1:wq.cell? (aq wc.heap.size 1)=some (Iq 0):=(by simp[World.cell?,hzr]);have q2:wq.cell? (aq wc.heap.size 2)=some (Iq 0):=(by simp[World.cell?,hzr]);have q3:wq.cell? (aq wc.heap.size 3)=some (Iq 0):=(by simp[World.cell?,hzr]);have q4:wq.cell? (aq wc.heap.size 4)=some (Iq 0):=(by simp[World.cell?,hzr]);have fr:∀j,wq.frozen? (aq wc.heap.size j)=false:=(fun j=>frozen_of_row _ _ _ _ _ hzr);have HZR:=qH<|hzr;clear hzr)));all_goals(gi_wp2_with fail)
          all_goals(gi_meet)
          all_goals(first
            |exact⟨_,rfl,bq.size,heap_alloc_new _ _,bq.alloc bq.size _⟩
            |exact⟨_,rfl,Fb,UW HZR,((((bq.setCell (p:=(aq wc.heap.size 0)) Fb _).setCell (p:=(aq wc.heap.size 1)) Fb _).setCell (p:=(aq wc.heap.size 2)) Fb _).setCell (p:=(aq wc.heap.size 3)) Fb _).setCell (p:=(aq wc.heap.size 4)) Fb _⟩)
        case rest=>
          obtain⟨B,rfl,hB,hrow,RF⟩:=hcut;have hsy:=RF.size;have q0:wc.cell? (aq B 0)=some (.string ⟨T.toArray⟩):=by simp[World.cell?,hrow]
          have q1:wc.cell? (aq B 1)=some (Iq V):=by simp[World.cell?,hrow]
          have q2:wc.cell? (aq B 2)=some (Iq 0):=by simp[World.cell?,hrow]
          have q3:wc.cell? (aq B 3)=some (Iq N):=by simp[World.cell?,hrow]
          have q4:wc.cell? (aq B 4)=some (Iq 0):=by simp[World.cell?,hrow]
          have fr:∀j,wc.frozen? (aq B j)=false:=fun j=>frozen_of_row _ _ _ _ _ hrow;have bz:Bt wr ((wc.setCell (aq B 2) (Iq a)).setCell (aq B 4) (Iq e1)):=(RF.setCell (p:=(aq B 2)) hB _).setCell (p:=(aq B 4)) hB _;have jz:=HJ bF wr _ none hJs (lj bz) (fun r e=>by cases e);have Hv:bF.length<l.length+1:=by have :=congrArg List.length mQ;rw[aI]at this;omega
          obtain⟨fn,tmps,assign,body,hy,hR⟩:=HY bF (fN l w a) _ jz Hv;rw[So.out]at hy;dsimp only[lnV]at hy;have HR:=qH<|hR;clear hrow cwx hR jz;gi_wp2;refine⟨fun _=>by omega,HR.mono ?_⟩;clear HR hy;rintro e W3 (⟨rfl,RK,wD⟩|⟨rfl,Oj⟩)
          · have zb2:=qH<|keepL_row wD (FM bC bz);have zgt:=qH<|(wD.2.trans (bz.block Bw X0)).trans b_;have hE:(fN l w a).E=e1:=by rw[So.out]
            by_cases h3:e1=3
            · have HF:Hid (bG l w=bF++[fN l w a]):=by show _=_;rw[HE.out,<-mQ.out,HX.out,if_pos (by rw[hE,h3])]
              clear hE;subst h3;gi_wp2;refine bodyPost_ret (results_none rfl _ _ _) rfl ?_;exact⟨⟨_,rfl⟩,.inl ⟨_,HF.symm,RK⟩⟩
            · have OL:(fN l w a).E≠3:=by rw[hE];exact h3
              have TF:=HNL OL;have HF:Hid ((bF++[fN l w a])++fD l w (Me l w a)=fD l w 0):=by show _=_;rw[<-mQ.out,HX.out,if_neg OL];simp
              have hnx':=HNX.out;have ze1:=qH<|hnx';rw[ze1.out]at HF TF;clear hE OL hnx';gi_wp2;go_roundw;case rel=>exact⟨a+n1+d1,bF++[fN l w a],by go_num,by omega,HF,zb2,zgt,RK⟩
              case measure=>simp[intOf];omega
          ·gi_wp2;refine bodyPost_ret (results_none rfl _ _ _) rfl ?_;exact⟨⟨_,rfl⟩,.inr ⟨_,trivial,Oj⟩⟩
attribute[local go_sem] Oper.semAt_some
theorem xI{Bw B}(hB:Bw<B)  W   l   o o'  (hl:B<=l) (h:W.heap[l]?=some o) (hc:o.isCells=false) (_:o.isWalk=false):jK Bw W (W.putObj l o'):=by have hg:=grownBy_putObj' W l o';have _i:=(az.1 h).1;refine⟨fun k c fz e=>?_,hg.block Bw (by omega) (fun e=>by grind)⟩;refine(hg.block k (az.1 e).1 (fun e'=>?_)).trans e;cases e';rw[h]at e;cases e;cases hc
theorem uc  n  (hn:3<=n)  Bw Bs   s   w   l  (hl:bi (ap s.data.toList)=l) (hs:s.size<=68719476736) (hw0:-9223372036854775808<=w) (iO:w<=9223372036854775807)  W0  (ht:aL W0)
 (hBw:W0.heap[Bw]?=some (.cells #[Iq w] 3 (0,0))) (Tg:W0.heap[Bs]?=some (.cells #[.string s] 9 (0,0))):
 SeqStopsK Fence.wide n prog 241 #[Pq Bw,Pq Bs] lnV (jK Bw) (fun ys=>ys=bG l w) (fun _=>True) (l.length+1) W0:=fun k0 J Jx W hW hJ _ hY h0=>
 N4 n hn k0 Bw Bs s w l hl hs hw0 iO J Jx W hJ hY (fun W' hW'=>(ht.below hW).below hW')
  ((hW.block Bw (az.1 hBw).1).trans hBw) ((hW.block Bs (az.1 Tg).1).trans Tg) h0
theorem Bo(s:ByteArray)(w:Int)(W:World):
 Cw 211 #[.string s,Iq w] W fun e w'=>e=Rw (.func (.func 241) #[] #[Pq (W.heap.size+1),Pq W.heap.size])/\w'=(W.alloc (.cells #[.string s] 9)).alloc (.cells #[Iq w] 3):=by go_enter func211,ntmps211;go_wp2;go_ret;simp_all
theorem Pg{W}{B Bw}{v v' x}(bj:Bw≠B)(hv:Boxed W B 3 v)(hw:Boxed W Bw 3 x):jK Bw W (W.setCell (aq B 0) v')/\Boxed (W.setCell (aq B 0) v') Bw 3 x:=by
 have hb:=Boxed.other hw bj v';refine⟨⟨fun j c fz e=>?_,hb.trans hw.symm⟩,hb⟩;have hjB:j≠B:=by rintro rfl;rw[show W.heap[j]?=_ from hv]at e;cases e
 rw[heap_setCell_other _ _ _ _ hjB];exact e
theorem JW(s:ByteArray)(w:Int)(W:World)(ht:aL W)(hs:s.size<=68719476736)(hw0:-9223372036854775808<=w)(iO:w<=9223372036854775807):
 Cw 251 #[.string s,Iq w] W fun e W'=>e=Rw (Iq (bG (bi (ap s.data.toList)) w).length)/\Bt W W':=by
 have pR:s.data.toList.length=s.size:=by rw[gc];rfl
 have hR:=bp s.data.toList;have hC:=cu (ap s.data.toList);rw[pR]at hR;obtain⟨l,hl⟩:=af (bi (ap s.data.toList));rw[hl]at hC⊢;refine(callsIn_wide (n:=6)).1 ?_;refine callsIn_of_wp_marks func251 rfl trivial ?_ rfl;simp only[ntmps251,kQ,cP,fh,Nat.reduceAdd,Nat.reduceSub,rV,rW,rX,rY,pL,ny];gi_wp2_with fail;refine⟨trivial,(callsIn_wide.2 (Bo s w _)).mono ?_⟩;rintro e w' ⟨rfl,rfl⟩;have bO:=Boxed.new W 3 (Iq 0);obtain⟨W0,bc⟩:=af (((W.alloc (.cells #[Iq 0] 3)).alloc (.cells #[.string s] 9)).alloc (.cells #[Iq w] 3));have bO0:Boxed W0 W.heap.size 3 (Iq 0):=by rw[<-bc];exact(bO.alloc _).alloc _
 have bS0:Boxed W0 (W.heap.size+1) 9 (.string s):=by rw[<-bc];have:=Boxed.new (W.alloc (.cells #[Iq 0] 3)) 9 (.string s);rw[aA]at this;exact this.alloc _
 have bW0:Boxed W0 (W.heap.size+2) 3 (Iq w):=by rw[<-bc];have:=Boxed.new ((W.alloc (.cells #[Iq 0] 3)).alloc (.cells #[.string s] 9)) 3 (Iq w);rw[aA,aA]at this;exact this
 have oI:Bt W W0:=by rw[<-bc];exact(((ag _ W).alloc (ae _) _).alloc (by simp) _).alloc (by simp;omega) _
 have eV:W0.heap.size=W.heap.size+3:=by rw[<-bc];simp
 have TN:=ht.below oI;rw[aA,bc];gi_wp2;refine wpIn_rangeFunc_ownG rfl (by omega) (gf:=241) (lb:=#[Pq (W.heap.size+2),Pq (W.heap.size+1)]) rfl trivial (enters_of func241 (by kernel_rfl) rfl)
  (uc 5 (by omega) (W.heap.size+2) (W.heap.size+1) s w l hl hs hw0 iO W0 TN bW0 bS0) jK.trans (xI (by omega)) (ag _ _) (fun _=>rfl)
  (fun bF W'=>(Boxed W' W.heap.size 3 (Iq bF.length)/\Boxed W' (W.heap.size+2) 3 (Iq w))/\Bt W W')
  (fun _ _ _=>False)
  (OwnFrom.and (OwnFrom.and (Own.from (boxed_own W.heap.size 3 (fun bF:List Ln=>Iq (bF.length:Int))) _) (Own.from (boxed_own _ _ _) _)) (ownFrom_below (ae _) (by omega)))
  (fun _ _ _ _ _ hs _ _=>hs)
  ⟨⟨bO0,bW0⟩,oI⟩
  (fun x=>{tmps:=#[.string s,Iq w,undef,undef,Iq 0,Pq W.heap.size,.string s,Iq w,.func (.func 241) #[] #[Pq (W.heap.size+2),Pq (W.heap.size+1)],.agg (cI x).toArray,undef,undef,undef],defers:=[]})
  ?assign ?body ?done ?stop;case assign=>rintro k0 ⟨T,V,F,N,E⟩ W' K hK;dsimp only[lnV,cI]at hK⊢;gi_wp2;simpa using hK
 case body=>rintro k0 bF x W' ⟨⟨hv,b_⟩,hB⟩ hlt;have hc:=hv.cell;have hf:=hv.frozen;have Tg:=hB.size;gi_wp2;obtain⟨cZ,Ks⟩:=Pg (v':=Iq ((bF.length:Int)+1)) (by omega) hv b_;exact⟨(KeepsOthers.setCell _ _ _).from _,cZ,⟨by have:=hv.set (Iq ((bF.length:Int)+1));grind,Ks⟩,hB.setCell (p:=(aq W.heap.size 0)) (ae _) _⟩
 case done=>rintro D ys W' hD rfl ⟨⟨hv,b_⟩,hB⟩ hK;have hc:=hv.cell;gi_wp2;refine⟨by simp,.inl ⟨_,_,rfl,run_takeDeferred hK,?_⟩⟩;exact⟨_,results_tmp rfl _ _ _,rfl,hB.trans (belowK_b (w:=W) (ae _) W' D _ _ (by omega) hK rfl rfl)⟩
 case stop=>rintro D c bF W' _ _ h _;exact h.elim
attribute[local go_sem] Oper.semAt_some
theorem O4:(prog.info? 277).map (fun i=>(i.zero,i.size,i.bytes))=some (some (.agg #[.string ⟨#[]⟩,Iq 0,Iq 0,Iq 0,Iq 0]),5,48):=by kernel_rfl
theorem Im{W:World}{n₀ k}{v}{xs}(h:W.ownsRow n₀ 277 5 v k xs){j}{c}{t}{fz}(hj:W.heap[j]?=some (.cells c t fz))(ht:t≠277):some j≠v.ownBlock:=by
 rcases h.2 with⟨rfl,_⟩|⟨g,cap,cM,rfl,_,hg,_⟩;·simp[Value.ownBlock]
 ·intro e;obtain rfl:j=g:=by simpa[Value.ownBlock]using e
  grind
theorem Pe{W w1}{n₀ B Bw k}{t}{v v' x}{xs}{tmp}(hte:t≠57)(zfY:Bw≠B)(hv:Boxed W B t v)(hrow:W.ownsRow n₀ 277 5 v k xs)(hw:Boxed W Bw 3 x)(jo:(W.alloc tmp).grownBy w1 v.ownBlock):
 jK Bw W (w1.setCell (aq B 0) v')/\Boxed (w1.setCell (aq B 0) v') Bw 3 x:=by
 have hb:=Boxed.other ((hw.alloc tmp).kept jo (Im hrow hw (by decide))) zfY v';refine⟨⟨fun j c fz e=>?_,hb.trans hw.symm⟩,hb⟩;have ut:=(az.1 e).1;have hjB:j≠B:=by rintro rfl;rw[show W.heap[j]?=_ from hv]at e;cases e;exact hte rfl
 rw[heap_setCell_other _ _ _ _ hjB];exact(jo.block j (by rw[aA];omega) (Im hrow e (by decide))).trans ((cG _ _ _ ut).trans e)
theorem Cf{W}{Bw}{x}(h:Boxed W Bw 3 x)  o  :jK Bw W (W.alloc o):=
 ⟨fun k c fz e=>(cG _ _ _ (az.1 e).1).trans e,cG _ _ _ h.lt⟩
theorem KY(s:ByteArray)(w:Int)(W:World)(ht:aL W)(hs:s.size<=68719476736)(hw0:-9223372036854775808<=w)(iO:w<=9223372036854775807):
 Cw 176 #[.string s,Iq w] W fun e W'=>∃v,e=Rw v/\W'.ownsRow W.heap.size 277 5 v (bG (bi (ap s.data.toList)) w).length (iR (bG (bi (ap s.data.toList)) w))/\Bt W W':=by
 have pR:s.data.toList.length=s.size:=by rw[gc];rfl
 have hR:=bp s.data.toList;have hC:=cu (ap s.data.toList);rw[pR]at hR;obtain⟨l,hl⟩:=af (bi (ap s.data.toList));rw[hl]at hC⊢;obtain⟨i0,hi,dJ,fy,fB⟩:=info_parts O4;refine(callsIn_wide (n:=6)).1 ?_;refine callsIn_of_wp_marks func176 rfl trivial ?_ rfl;simp only[ntmps176,kQ,cP,fh,Nat.reduceAdd,Nat.reduceSub,rV,rW,rX,rY,pL,ny];gi_wp2_with fail;refine⟨trivial,(callsIn_wide.2 (Bo s w _)).mono ?_⟩;rintro e w' ⟨rfl,rfl⟩;have bO:=Boxed.new W 274 (.slice none 0 0);obtain⟨W0,bc⟩:=af (((W.alloc (.cells #[.slice none 0 0] 274)).alloc (.cells #[.string s] 9)).alloc (.cells #[Iq w] 3));have bO0:Boxed W0 W.heap.size 274 (.slice none 0 0):=by rw[<-bc];exact(bO.alloc _).alloc _
 have bS0:Boxed W0 (W.heap.size+1) 9 (.string s):=by rw[<-bc];have:=Boxed.new (W.alloc (.cells #[.slice none 0 0] 274)) 9 (.string s);rw[aA]at this;exact this.alloc _
 have bW0:Boxed W0 (W.heap.size+2) 3 (Iq w):=by rw[<-bc];have:=Boxed.new ((W.alloc (.cells #[.slice none 0 0] 274)).alloc (.cells #[.string s] 9)) 3 (Iq w);rw[aA,aA]at this;exact this
 have oI:Bt W W0:=by rw[<-bc];exact(((ag _ W).alloc (ae _) _).alloc (by simp) _).alloc (by simp;omega) _
 have eV:W0.heap.size=W.heap.size+3:=by rw[<-bc];simp
 have TN:=ht.below oI;rw[aA,bc];gi_wp2;refine wpIn_rangeFunc_ownH rfl (by omega) (gf:=241) (lb:=#[Pq (W.heap.size+2),Pq (W.heap.size+1)]) rfl trivial (enters_of func241 (by kernel_rfl) rfl)
  (uc 5 (by omega) (W.heap.size+2) (W.heap.size+1) s w l hl hs hw0 iO W0 TN bW0 bS0) jK.trans (xI (by omega)) (ag _ _) (fun _=>rfl)
  (fun bF W'=>((∃v,Boxed W' W.heap.size 274 v/\W'.ownsRow W.heap.size 277 5 v bF.length (iR bF)/\True)/\Boxed W' (W.heap.size+2) 3 (Iq w))/\Bt W W')
  (fun _ _ _=>False)
  (OwnFrom.and (OwnFrom.and (Own.from (holdsRow_own W.heap.size W.heap.size 274 277 5 (fun bF:List Ln=>bF.length) (fun bF=>iR bF) (fun _ _=>True)) _) (Own.from (boxed_own _ _ _) _)) (ownFrom_below (ae _) (by omega)))
  (fun _ _ _ _ _ hs _ _=>hs)
  ⟨⟨⟨_,bO0,jb _ _ _ _,trivial⟩,bW0⟩,oI⟩
  (fun x a' W'=>∃Bx,W'.heap[Bx]?=some (.cells (cI x).toArray 277 (0,0))/\a'={tmps:=#[.string s,Iq w,undef,undef,.slice none 0 0,Pq W.heap.size,Pq Bx,.string s,Iq w,.func (.func 241) #[] #[Pq (W.heap.size+2),Pq (W.heap.size+1)],.agg (cI x).toArray,undef,undef,undef,undef,undef],defers:=[]})
  ?hAx ?assign ?body ?done ?stop;case hAx=>rintro x a' _ A B row ⟨Bx,h2,h3⟩ hg hr;refine⟨Bx,(hg.block Bx (az.1 h2).1 (fun e=>?_)).trans h2,h3⟩;obtain⟨_,o,ho,hc⟩:=hr Bx e.symm;rw[h2]at ho;cases ho;cases hc
 case assign=>rintro k0 bF ⟨T,V,F,N,E⟩ W' K ⟨⟨⟨v,hv,hrow,_⟩,b_⟩,hB⟩ hK;dsimp only[lnV,cI]at hK⊢;have Tg:=hB.size;gi_wp2;exact hK _ _ ((KeepsOthers.alloc _ _).from _) (Cf b_ _) ⟨⟨⟨v,hv.alloc _,hrow.alloc _,trivial⟩,b_.alloc _⟩,hB.alloc hB.size _⟩ ⟨W'.heap.size,heap_alloc_new _ _,rfl⟩
 case body=>rintro k0 bF x a' W' KD ⟨r,hr⟩ ⟨⟨⟨v,hv,hrow,_⟩,b_⟩,hB⟩ ⟨Bx,hx,rfl⟩ hlt;have hc:=hv.cell;obtain⟨x0,x1,x2,x3,x4⟩:=JP hx;have HX:Hid (W'.heap[Bx]?=some (.cells (cI x).toArray 277 (0,0))):=hx;have Tg:=hB.size;clear hx;gi_wp2_with(gi_at_builtin;refine wpListIn_append_own _ rfl _ _ 274 rfl W.heap.size 277 i0 (.agg #[.string ⟨#[]⟩,Iq 0,Iq 0,Iq 0,Iq 0]) 5 48 underlying274 hi dJ fy fB rfl (by decide) _ _ _ rfl (hrow.alloc _) (aq W'.heap.size 0) 1 1 (cI x) rfl rfl (Py _ _ _) (by intro u hu;simp[cI]at hu;rcases hu with rfl|rfl|rfl|rfl|rfl<;>rfl) (by unfold maxLen;omega) (by omega) (by simp;omega) ?_;intro v' w1 bS jo _;obtain⟨g',cH,rfl⟩:=ownsRow_succ bS;obtain⟨fj,my,hr2,Wr,dE⟩:=hv.appended (by decide) hrow hB.size (ae _) bS jo;obtain⟨cZ,Ks⟩:=Pe (v':=Sq g' (bF.length+1) cH) (by decide) (by omega) hv hrow b_ jo;have hc1:=fj.cell;have Yq:=fj.frozen);exact⟨Wr.from _,cZ,⟨⟨_,my,by grind[Cl],trivial⟩,Ks⟩,hB.trans dE⟩
 case done=>rintro D ys W' hD rfl ⟨⟨⟨v,hv,hrow,_⟩,b_⟩,hB⟩ hK;have hc:=hv.cell;gi_wp2;refine⟨by simp,.inl ⟨_,_,rfl,run_takeDeferred hK,?_⟩⟩;exact⟨_,results_tmp rfl _ _ _,v,rfl,ownsRow_putObj hrow _ hK rfl,hB.trans (belowK_b (w:=W) (ae _) W' D _ _ (by omega) hK rfl rfl)⟩
 case stop=>rintro D c bF W' _ _ h _;exact h.elim
attribute[local go_sem] Oper.semAt_some
def jF(id:Int)(aX off:Nat->Int):Nat->Int
 |0=>0
 |k+1=>if aX k=id then off k else jF id aX off k
def jE(id:Int)(aX off:Nat->Int)(n:Nat):Int:=if id=0 then 0 else jF id aX off n
def gV(n:Nat):List Nat:=(List.range n).reverse
theorem jX  n  :gV (n+1)=n::gV n:=by unfold gV;rw[yl,List.reverse_append];rfl
theorem uT  id   aX off  :∀  n k   bF,bF++gV k=gV n->k<=n->(∀i∈bF,aX i≠id)->jF id aX off n=jF id aX off k
 |0,k,bF,h,hk,_=>by grind
 |n+1,k,bF,h,hk,hp=>by
  by_cases e:k=n+1;·rw[e]
  ·rw[jX]at h;cases bF with
   |nil=>have:=congrArg List.length h;grind[gV]
   |cons a bF=>rw[ny]at h;injection h with h1 h2;have ha:=hp a (by simp);rw[h1]at ha;have hu:jF id aX off (n+1)=jF id aX off n:=if_neg ha;rw[hu];exact uT id aX off n k bF h2 (by omega) (fun i hi=>hp i (by simp[hi]))
def sN(W:World)(p:Option Addr)(n:Nat)(aX off:Nat->Int):Prop:=n=0\/∃b o,p=some (aq b o)/\b<W.heap.size/\∀j,j<n->W.cell? (aq b (o+j*2))=some (Iq (aX j))/\W.cell? (aq b (o+j*2+1))=some (Iq (off j))
def oq(Bx:Nat)(p:Option Addr)(W W':World):Prop:=W'.heap[Bx]?=W.heap[Bx]?/\∀a:Addr,p=some a->W'.heap[a.block]?=W.heap[a.block]?
theorem oq.trans{Bx}{p}{A B C}(h:oq Bx p A B)(k:oq Bx p B C):oq Bx p A C:=⟨k.1.trans h.1,fun a e=>(k.2 a e).trans (h.2 a e)⟩
theorem sN.keep{W W'}{Bx}{p}{n}{aX off}(h:sN W p n aX off)(hk:oq Bx p W W'):sN W' p n aX off:=by
 rcases h with h|⟨b,o,e,h1,h2⟩;·exact .inl h
 ·have hb:W'.heap[b]?=W.heap[b]?:=hk.2 _ e;refine .inr ⟨b,o,e,?_,fun j hj=>⟨(ba (a:=(aq b (o+j*2))) hb).trans (h2 j hj).1,(ba (a:=(aq b (o+j*2+1))) hb).trans (h2 j hj).2⟩⟩;grind
theorem sN.below{W W'}{p}{n}{aX off}(h:sN W p n aX off)(hb:Bt W W'):sN W' p n aX off:=by
 rcases h with h|⟨b,o,e,h1,h2⟩;·exact .inl h
 ·exact .inr ⟨b,o,e,zz007 h1 hb.size,fun j hj=>⟨(hb.cell (p:=(aq b _)) h1).trans (h2 j hj).1,(hb.cell (p:=(aq b _)) h1).trans (h2 j hj).2⟩⟩
def scV(aX off:Nat->Int)(i:Nat):Array Value:=#[Iq (i:Int),.agg #[Iq (aX i),Iq (off i)]]
theorem yQ(n:Nat)(hn:3<=n)(Bx N c:Nat)(p:Option Addr)(aX off:Nat->Int)(hN:N<=4611686018427387904)(W0:World)(hs:sN W0 p N aX off)(hx:W0.heap[Bx]?=some (.cells #[.slice p N c] 79 (0,0))):
 SeqStopsK Fence.wide n prog 229 #[Pq Bx] (scV aX off) (oq Bx p) (fun xs=>xs=gV N) (fun bF=>∃k,k<=N/\bF++gV k=gV N) N W0:=by
 intro k0 J Jx W hW hJ hJx hY h0;have uA:=(hW.block Bx (az.1 hx).1).trans hx;have cx:W.cell? (aq Bx 0)=some (.slice p N c):=by simp[World.cell?,uA]
 have HX1:Hid (W.heap[Bx]?=some (.cells #[.slice p N c] 79 (0,0))/\sN W p N aX off):=⟨uA,hs.below hW⟩;have HY:=qH<|hY;have HJ0:=qH<|h0;refine callsIn_of_wp func229 rfl trivial ?_ rfl;simp only[ntmps229,kQ,cP,fh,Nat.reduceAdd,Nat.reduceSub,rV,rW,rX,rY,pL,ny];gi_wp2;gi_loopw[3] (fun iv wr=>∃(k:Nat) (bF:List Nat),k<=N/\iv=Iq ((k:Int)-1)/\Hid (bF++gV k=gV N)/\Hid (wr.heap[Bx]?=some (.cells #[.slice p N c] 79 (0,0))/\sN wr p N aX off)/\Hid (J bF wr)) (fun iv _=>(intOf iv+1).toNat);case atStart=>grind
 case round=>
  obtain⟨k,bF,hk,rfl,mQ,HX,Xl⟩:=hrel;cases k with
  |zero=>gi_wp2;go_end0;exact⟨⟨_,rfl⟩,.inl ⟨_,by have:=mQ.out;simp_all[gV],Xl⟩⟩
  |succ i=>
   have ei:((i+1:Nat):Int)-1=(i:Int):=by omega
   rw[ei];have Hv:bF.length<N:=by have h1:=congrArg List.length mQ;rw[aI]at h1;simp[gV]at h1;omega
   have cx:wr.cell? (aq Bx 0)=some (.slice p N c):=by simp[World.cell?,HX.1]
   obtain⟨b,o,rfl,hbl,iD⟩:=HX.2.resolve_left (by omega);have c0:=(iD i (by omega)).1;have c1:=(iD i (by omega)).2;obtain⟨fn,tmps,assign,body,hy,hR⟩:=HY bF i wr Xl Hv;dsimp only[scV]at hy;have HR:=qH<|hR;have vM:Hid ((bF++[i])++gV i=gV N):=by show _=_;rw[<-mQ.out,jX];simp
   gi_wp2;refine⟨fun _=>by omega,HR.mono ?_⟩;rintro e W3 (⟨rfl,RK,wD⟩|⟨rfl,Oj⟩)
   ·have HX3:Hid (W3.heap[Bx]?=some (.cells #[.slice (some (aq b o)) N c] 79 (0,0))/\sN W3 (some (aq b o)) N aX off):=⟨wD.1.trans HX.1,HX.2.keep wD⟩;gi_wp2;go_roundw;case rel=>grind
    case measure=>simp[intOf]<;>omega
   ·gi_wp2;refine bodyPost_ret (results_none rfl _ _ _) rfl ?_;exact⟨⟨_,rfl⟩,.inr ⟨_,⟨i,by omega,vM⟩,Oj⟩⟩
theorem yR(p:Option Addr)(N c:Nat)(W:World):
 Cw 198 #[.slice p N c] W fun e w'=>e=Rw (.func (.func 229) #[] #[Pq W.heap.size])/\w'=W.alloc (.cells #[.slice p N c] 79):=by go_enter func198,ntmps198;go_wp2;go_ret;simp_all
theorem KN{Bx B}{p}(h0:Bx<B)(h1:∀a,p=some a->a.block<B)  W   l   o o'  (hl:B<=l) (_:W.heap[l]?=some o) (_:o.isCells=false) (_:o.isWalk=false):oq Bx p W (W.putObj l o'):=
 ⟨World.putObj_heap_other (by omega),fun a e=>World.putObj_heap_other (by grind)⟩
theorem NA{W:World}{B}{x y}{t}(h:W.heap[B]?=some (.cells #[x,y] t (0,0))):W.cell? (aq B 0)=some x/\W.cell? (aq B 1)=some y:=by simp[World.cell?,h]
theorem FG(id:Int)(p:Option Addr)(N c:Nat)(aX off:Nat->Int)(U:World)(hs:sN U p N aX off)(hN:N<=4611686018427387904)(hp:∀a:Addr,p=some a->a.block<U.heap.size):
 Calls prog 159 #[Iq id,.slice p N c] U fun e U'=>e=.returned (Iq (jE id aX off N))/\Below U.heap.size U U':=by
 by_cases h0:id=0;·subst h0;have HR:Hid (jE 0 aX off N=0):=if_pos rfl;have HB:Hid (Below U.heap.size U ((U.alloc (.cells #[Iq 0] 3)).alloc (.cells #[Iq 0] 3))):=((ag _ U).alloc (ae _) _).alloc (by simp) _;go_enter func159,ntmps159;go_wp2;refine bodyPost_ret (v:=Iq 0) (by simp[results,Tryz.results159,go_sem]) rfl ⟨by rw[HR.out],HB⟩
 ·have HR:Hid (jE id aX off N=jF id aX off N):=if_neg h0;refine(callsIn_wide (n:=6)).1 ?_;refine callsIn_of_wp_marks func159 rfl trivial ?_ rfl;simp only[ntmps159,kQ,cP,fh,Nat.reduceAdd,Nat.reduceSub,rV,rW,rX,rY,pL,ny];gi_wp2_with fail;refine⟨trivial,(callsIn_wide.2 (yR p N c _)).mono ?_⟩;rintro e w' ⟨rfl,rfl⟩;obtain⟨S,hS⟩:=af U.heap.size;obtain⟨W0,bc⟩:=af (((U.alloc (.cells #[Iq id] 3)).alloc (.cells #[Iq 0] 3)).alloc (.cells #[.slice p N c] 79));have bI:Boxed W0 S 3 (Iq id):=by rw[<-bc,<-hS];exact((Boxed.new U 3 (Iq id)).alloc _).alloc _
  have bR:Boxed W0 (S+1) 3 (Iq 0):=by rw[<-bc,<-hS];have:=Boxed.new (U.alloc (.cells #[Iq id] 3)) 3 (Iq 0);rw[aA]at this;exact this.alloc _
  have bX:Boxed W0 (S+2) 79 (.slice p N c):=by rw[<-bc,<-hS];have:=Boxed.new ((U.alloc (.cells #[Iq id] 3)).alloc (.cells #[Iq 0] 3)) 79 (.slice p N c);rw[aA,aA]at this;exact this
  have oI:Below S U W0:=by rw[<-bc,<-hS];exact(((ag _ U).alloc (ae _) _).alloc (by simp) _).alloc (by simp;omega) _
  have eV:W0.heap.size=S+3:=by rw[<-bc];simp;omega
  have Hy:=hs.below (by subst hS;exact oI);have oK:∀a:Addr,p=some a->a.block<S:=fun a e=>by grind
  rw[aA,aA,bc];gi_wp2;refine wpIn_rangeFunc_ownH rfl (by omega) (gf:=229) (lb:=#[Pq (S+1+1)]) rfl trivial (enters_of func229 (by kernel_rfl) rfl)
   (yQ 5 (by omega) (S+1+1) N c p aX off hN W0 Hy bX) oq.trans (KN (by omega) (fun a e=>by grind)) (ag _ _) (fun _=>rfl)
   (fun bF W'=>(((Boxed W' S 3 (Iq id)/\Boxed W' (S+1) 3 (Iq 0))/\Boxed W' (S+1+1) 79 (.slice p N c))/\Below S U W')/\∀i∈bF,aX i≠id)
   (fun cd bF W'=>∃pr x,bF=pr++[x]/\aX x=id/\(∀i∈pr,aX i≠id)/\Boxed W' (S+1) 3 (Iq (off x))/\Below S U W'/\cd=.ret)
   (OwnFrom.and (OwnFrom.and (OwnFrom.and (OwnFrom.and (Own.from (boxed_own S 3 (fun _:List Nat=>Iq id)) _) (Own.from (boxed_own (S+1) 3 (fun _:List Nat=>Iq 0)) _)) (Own.from (boxed_own (S+1+1) 79 (fun _:List Nat=>Value.slice p N c)) _)) (ownFrom_below (by omega) (by omega))) (fun _ _ _ _ h _ _=>h))
   (fun cd bF A B row ⟨pr,x,e1,e2,e3,hb,hB,hc⟩ hg hr=>⟨pr,x,e1,e2,e3,(Own.from (boxed_own (S+1) 3 (fun _:Unit=>Iq (off x))) W0.heap.size) () A B row hb hg hr,(ownFrom_below (β:=Unit) (n₀:=S) (w₀:=U) (by omega) (by omega)) () A B row hB hg hr,hc⟩)
   ⟨⟨⟨⟨bI,bR⟩,bX⟩,oI⟩,fun i hi=>by cases hi⟩
   (fun x a' W'=>∃Bx,W'.heap[Bx]?=some (.cells #[Iq (aX x),Iq (off x)] 124 (0,0))/\a'={tmps:=#[Iq id,.slice p N c,Pq S,undef,Pq (S+1),undef,Pq Bx,Iq id,.bool false,.slice p N c,.func (.func 229) #[] #[Pq (S+1+1)],Iq (x:Int),.agg #[Iq (aX x),Iq (off x)],undef,undef,undef,undef,undef,undef],defers:=[]})
   ?hAx ?assign ?body ?done ?stop;case hAx=>rintro x a' _ A B row ⟨Bx,h2,h3⟩ hg hr;refine⟨Bx,(hg.block Bx (az.1 h2).1 (fun e=>?_)).trans h2,h3⟩;obtain⟨_,o,ho,hc⟩:=hr Bx e.symm;rw[h2]at ho;cases ho;cases hc
  case assign=>rintro k0 bF x W' K ⟨⟨⟨⟨h1,h2⟩,h3⟩,hB⟩,h4⟩ hK;dsimp only[scV]at hK⊢;have hkp:∀o,oq (S+1+1) p W' (W'.alloc o):=fun o=>⟨cG _ _ _ h3.lt,fun a e=>cG _ _ _ (by have:=oK a e;have:=h1.lt;omega)⟩;gi_wp2;exact hK _ _ ((KeepsOthers.alloc _ _).from _) (hkp _) ⟨⟨⟨⟨h1.alloc _,h2.alloc _⟩,h3.alloc _⟩,hB.alloc (by have:=h1.lt;omega) _⟩,h4⟩ ⟨W'.heap.size,heap_alloc_new _ _,rfl⟩
  case body=>
   rintro k0 bF x a' W' KD ⟨r,hr⟩ ⟨⟨⟨⟨h1,h2⟩,h3⟩,hB⟩,h4⟩ ⟨Bx,hx,rfl⟩ hlt;have c1:=h1.cell;have c2:=h2.cell;have f2:=h2.frozen;obtain⟨x0,x1⟩:=NA hx;by_cases hid:aX x=id;·have HE:Hid (Boxed (W'.setCell (aq (S+1) 0) (Iq (off x))) (S+1) 3 (Iq (off x))/\Below S U (W'.setCell (aq (S+1) 0) (Iq (off x)))):=⟨h2.set _,hB.setCell (p:=(aq (S+1) 0)) (by grind) _⟩;rw[hid]at x0;gi_wp2;exact⟨(KeepsOthers.setCell _ _ _).from _,bF,x,rfl,hid,h4,HE.1,HE.2,rfl⟩
   ·have e1:(aX x==id)=false:=by simpa using hid
    gi_wp2;exact⟨(KeepsOthers.refl _).from _,⟨rfl,fun _ _=>rfl⟩,⟨⟨⟨h1,h2⟩,h3⟩,hB⟩,fun i hi=>by grind⟩
  case done=>
   rintro D ys W' hD rfl ⟨⟨⟨⟨h1,h2⟩,h3⟩,hB⟩,h4⟩ hK;have c2:=h2.cell;have f2:=h2.frozen;have gI:Hid (jE id aX off N=0):=by show _=_;rw[HR.out,uT id aX off N 0 (gV N) (by simp[gV]) (bm _) h4];rfl
   have hK2:(W'.setCell (aq (S+1) 0) (Iq 0)).heap[D]?=some (.deferred (some [])):=(bv W' (aq (S+1) 0) _ D (by grind)).trans hK;have sU:=(h2.set (Iq 0)).kept (grownBy_putObj' _ D (.deferred none)) (by grind);have Yl:=sU.cell;have HBE:Hid (Below S U ((W'.setCell (aq (S+1) 0) (Iq 0)).putObj D (.deferred none))):=(hB.setCell (p:=(aq (S+1) 0)) (by grind) _).trans (belowK_b (w:=U) (by omega) _ D _ _ (by omega) hK2 rfl rfl);gi_wp2;refine⟨by simp,.inl ⟨_,_,rfl,run_takeDeferred hK2,?_⟩⟩;exact⟨Iq 0,by simp[results,Tryz.results159,go_sem,Yl],by rw[gI.out],by rw[hS];exact HBE⟩
  case stop=>
   rintro D cd bF W' hD ⟨k,hk,mQ⟩ ⟨pr,x,e1,e2,e3,hb,hB,rfl⟩ hK;have gI:Hid (jE id aX off N=off x):=by
    show _=_;have hq:pr++gV (k+1)=gV N:=by
     have:=mQ;rw[e1]at this;have hx:x=k:=by
      have h9:∀(n:Nat) (pr:List Nat) (x k:Nat),(pr++[x])++gV k=gV n->x=k:=by
       intro n;induction n with
       |zero=>simp_all[gV]
       |succ n ih=>
        intro pr x k h;rw[jX]at h;cases pr with
        |nil=>simp at h;have:=congrArg List.length h.2;grind[gV]
        |cons a pr=>grind
      exact h9 N pr x k this
     rw[jX,<-hx];rw[<-hx]at this;simpa using this
    have hkN:k+1<=N:=by have:=congrArg List.length hq;simp[gV]at this;omega
    have hxk:x=k:=by
     have h1:=mQ;rw[e1]at h1;have h2:pr++(x::gV k)=pr++(k::gV k):=by rw[jX]at hq;rw[hq,<-h1];simp
     have:=List.append_cancel_left h2;injection this
    rw[HR.out,uT id aX off N (k+1) pr hq hkN e3];show(if aX k=id then off k else jF id aX off k)=off x;rw[<-hxk,if_pos e2]
   have sU:=hb.kept (grownBy_putObj' W' D (.deferred none)) (by grind);have Yl:=sU.cell;gi_wp2;refine⟨by simp,.inl ⟨_,_,rfl,run_takeDeferred hK,?_⟩⟩;exact⟨Iq (off x),by simp[results,Tryz.results159,go_sem,Yl],by rw[gI.out],by rw[hS];exact hB.trans (belowK_b (w:=U) (by omega) W' D _ _ (by omega) hK rfl rfl)⟩
