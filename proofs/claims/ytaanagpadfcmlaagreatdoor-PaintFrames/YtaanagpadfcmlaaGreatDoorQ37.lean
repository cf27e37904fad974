import Derived.Test.YtaanagpadfcmlaaGreatDoorQ00
import Derived.RangeFuncNested
import Derived.RangeFuncBound
import Derived.Shelf.Abstract
import Derived.Shelf.RegionOpen
import Derived.WalkKit
import Derived.OwnWalkIn
import Derived.LoopNIn
import Derived.LoopIn
import Derived.Sort.CutIn
import Derived.Test.YtaanagpadfcmlaaGreatDoorQ34
import Derived.Test.YtaanagpadfcmlaaGreatDoorQ01
set_option linter.all false
set_option maxRecDepth 100000
set_option maxHeartbeats 16000000
namespace Go.Proofs.YtaanagpadfcmlaaGreatDoor
open Go.RowKit Go.Proofs.Tryz
section
open Go.Shelf
attribute[local go_sem] Oper.semAt_some
def iN(Bw:Nat)(W W':World):Prop:=(∀(k:Nat) (c:Array Value) (fz:Nat×Nat),W.heap[k]?=some (.cells c 222 fz)->W'.heap[k]?=some (.cells c 222 fz))/\W'.heap[Bw]?=W.heap[Bw]?
theorem iN.trans{a}{A B C}(h:iN a A B)(k:iN a B C):iN a A C:=⟨λi c b e=>k.1 i c b (h.1 i c b e),k.2.trans h.2⟩
theorem keepL_row{f}{W c}(h:iN f W c){B n}{v}{e}(d:W.ownsRow B 222 2 v n e):c.ownsRow B 222 2 v n e:=by refine⟨d.1,d.2.imp id ?_⟩;rintro⟨g,b,a,i,j,k,l⟩;exact⟨g,b,a,i,j,h.1 g a _ k,l⟩
theorem jU{W a}(h:Bt W a):W.grownBy a none:=⟨h.os,h.tape,h.output,h.size,λk b _=>h.block k b⟩
theorem yd{w}{B}{v}{l}(h:w.ownsRow B 222 2 v l.length (dB l)):mG w v l:=(mP h).clsC
theorem BR{w w'}{B n}{e}{v}{d}(h:w.ownsRow B e 2 v n d)(k:Bt w w'):w'.ownsRow B e 2 v n d:=by refine⟨h.1,h.2.imp id ?_⟩;rintro⟨g,a,b,f,i,c,j⟩;exact⟨g,a,b,f,i,(k.block g (aD.1 c).1).trans c,j⟩
theorem Hl{w}{b off c a n}{l:List (List UInt8×Int)}(m:a+n<=l.length)(d:l.length<=c)(g:c<=maxLen)(h:b<w.heap.size)(i:∀j (k:j<l.length),w.cell? (aj b (off+j*2))=some (.string ⟨(l[j]).1.toArray⟩)/\w.cell? (aj b (off+j*2+1))=some (Iq (l[j]).2)):
 mG w (.slice (if c=a then some (aj b off)else some (aj b (off+a*2))) n (c-a)) ((l.drop a).take n):=by
 have f:((l.drop a).take n).length=n:=by rw[b_,cL];omega
 refine⟨_,_,by rw[f],by rw[f];omega,dg,?_⟩;by_cases e:c=a;·grind
 ·right;rw[if_neg e];grind
def QA(x:Ln):Array Value:=#[.agg #[.string ⟨x.T.toArray⟩,Iq x.W,Iq x.F,Iq x.N,Iq x.E]]
theorem Hy(n:Nat)(hn:3<=n)(k0 H Bs:Nat)(s:ByteArray)(w:Int)(l:List (List UInt8×Int))(hl:aG (ak s.data.toList)=l)(hs:s.size<=68719476736)(hw0:-9223372036854775808<=w)(zP:w<=9223372036854775807)(J Jx:List Ln->World->Prop)(W:World)(hJ:AbidesFrom W.heap.size J)(hY:∀i x W1,J i W1->i.length<l.length+1->YieldAt Fence.wide (n-1) prog k0 (QA x) W1 λe W'=>
      (e=Rw (.bool true)/\J (i++[x]) W'/\iN H W1 W')\/(e=Rw (.bool false)/\Jx (i++[x]) W'))(ht:∀W',Bt W W'->bN W')(zm:W.heap[H]?=some (.cells #[Iq w] 3 (0,0)))(zD:W.heap[Bs]?=some (.cells #[.string s] 9 (0,0)))(h0:J [] W):
    CallsIn Fence.wide n prog 225 #[.func (.yield k0) #[] #[],Pq H,Pq Bs] W λe W'=>(∃v,e=Rw v)/\
      ((∃ys,ys=a_ l w/\J ys W')\/(∃i,True/\Jx i W')):=by
  have zO:s.data.toList.length=s.size:=by rw[dZ];rfl
  have hR:=aX s.data.toList;have hC:=bu (ak s.data.toList);have zo:=cE (ak s.data.toList);have zx:=jl (ak s.data.toList);rw[zO]at hR;rw[hl]at hC zo zx;have cw:W.cell? (aj H 0)=some (Iq w):=by simp[World.cell?,zm]
  have cs:W.cell? (aj Bs 0)=some (.string s):=by simp[World.cell?,zD]
  have ze:=qH<|zm;have zz:=qH<|zo;have zT:=qH<|zx;have HL:=qH<|hl;have HT:=qH<|ht;have HJ:=qH<|hJ;have HY:=qH<|hY;clear zm zD zo zx hl ht hJ hY zO;refine callsIn_of_wp func225 rfl trivial ?_ rfl;simp only[ntmps225,jh,dP,fP,Nat.reduceAdd,Nat.reduceSub,pf,ph,pi,pm,po,lT];by_cases zN:w<1
  · have HE:Hid (a_ l w=[]):=by show _=_;rw[a_,if_pos zN]
    gi_wp2;refine bodyPost_ret (results_none rfl _ _ _) rfl ?_;exact⟨⟨_,rfl⟩,.inl ⟨[],HE.symm,h0⟩⟩
  have HE:Hid (a_ l w=cY l w 0):=by show _=_;rw[a_,if_neg zN]
  have K:1<=w:=dg;have G:Hid (Cw 135 #[.string s] W λe w'=>∃v,e=Rw v/\w'.ownsRow W.heap.size 222 2 v l.length (dB l)/\Bt W w'):=by have :=ga s W (HT W (af _ _)) dg;rw[HL.out]at this;exact this
  gi_wp2_with fail;refine⟨trivial,λ_=>dg,(callsIn_wide.2 G).mono ?_⟩;rintro e w1 ⟨v1,rfl,o1,b1⟩;have zC:=qH<|o1;have j1:=HJ.out [] W w1 none h0 (jU b1) (λr e=>by cases e);have zF:=(aD.1 ze).1;have zc:=qH<|(b1.block H zF).trans ze;have Ra:=b1.size;obtain⟨a1,q,rfl,XQ,Yn,zV⟩:=yd o1;clear G ze cw cs o1 zV;gi_wp2;gi_loopw[5] (λp wr=>∃(a:Nat) (i:List Ln),p=Iq a/\a<=l.length/\Hid (i++cY l w a=cY l w 0)/\Hid (wr.ownsRow W.heap.size 222 2 (.slice a1 l.length q) l.length (dB l))/\Hid (wr.heap[H]?=some (.cells #[Iq w] 3 (0,0)))/\J i wr) (λp _=>l.length-(intOf p).toNat);case atStart=>exact⟨0,[],rfl,aR _,rfl,zC,zc,j1⟩
  case round=>
    obtain⟨a,i,rfl,ha,A,za,zq,zH⟩:=hrel;have cw:wr.cell? (aj H 0)=some (Iq w):=by have :=zq.out;simp[World.cell?,this]
    have S:=(aD.1 zq).1;clear j1 zC zc b1;have zU:(l=[]/\a1=none/\q=0)\/∃b,a1=some (aj b 0):=by
      rcases za.2 with⟨R,e2⟩|⟨g,cp,_a,R,_⟩;·grind
      ·grind
    have Ss:(a:Int)<=(l.length:Int):=dg;have __:(l.length:Int)<=(q:Int):=dg;rcases zU with⟨R,rfl,rfl⟩|⟨b,rfl⟩
    · have zY:prog.follows .mixedOrders=true:=ns
      have zX:l.length=0:=by rw[R];rfl
      obtain rfl:a=0:=dg;have zn:cu l w 0=⟨[],0,0,0,3⟩:=by
        rw[R];have h1:¬w<0:=dg;simp[cu,aM,cR,aB,ai,h1]
      have I:=qH<|zn;have HF:Hid (a_ l w=i++[cu l w 0]):=by show _=_;rw[HE.out,<-A.out,jn (aR _) (by rw[zn])]
      have zw:i.length<l.length+1:=by have :=congrArg List.length A;have h2:=(dQ l w 0 (aR _)).1;rw[aU]at this;omega
      have X:∀w',mG w' (.slice none 0 0) []:=λw'=>⟨none,0,rfl,ae _,aR _,.inl rfl⟩;have L:Hid (Cw 226 #[.slice none 0 0,Iq w] wr.drew λe w'=>e=Rw (.tuple #[Iq 0,Iq 0,Iq 3])/\Bt wr w'):=by refine(lE [] _ w wr.drew (X _) rn rn K zP).mono ?_;rintro e m ⟨rfl,M⟩;exact⟨by simp[aM,cR],((af wr.heap.size wr).drew).trans M⟩
      have F:Hid (∀w',Cw 227 #[.slice none 0 0,Iq w] w' λe m=>e=Rw (.agg #[.string ⟨#[]⟩,Iq 0,Iq 0,Iq 0,Iq 0])/\Bt w' m):=by
        intro w';refine(re [] _ w w' (X w').cls rn rn (by simp[aB]) K (λh=>by grind[ai])).mono ?_;rintro e m ⟨rfl,M⟩;refine⟨?_,M⟩;have h1:¬w<0:=dg
        simp[oU,IR,aB,ai,h1]
      rw[zX];clear zn X;gi_wp2_with fail;gi_cut[6,7,8]from 14 (λx y z wx=>x=Iq 0/\y=Iq 0/\z=Iq 3/\Bt wr wx);case first=>
        gi_region_with_o(refine⟨trivial,λ_=>dg,(callsIn_wide.2 L).mono ?_⟩;rintro e C ⟨rfl,O⟩);all_goals(gi_wp2_with fail)
        all_goals(gi_meet)
        grind
      case rest=>
        obtain⟨rfl,rfl,rfl,bx⟩:=hcut;have o:=bx.size;have zl:=(bx.cell (p:=(aj H 0)) S).trans cw;have zE:H<wc.heap.size:=dg;have zG:¬H=wc.heap.size:=dg;clear cw L;gi_wp2_with fail;gi_cut[9]from 14 (λp wx=>∃B,p=Pq B/\wr.heap.size<=B/\wx.heap[B]?=some (.cells #[.string ⟨#[]⟩,Iq 0,Iq 0,Iq 0,Iq 0] 226 (0,0))/\Bt wr wx);case first=>
          have D:Hid (∀w',(w'=wc.drew\/w'=(wc.alloc (.cells #[.string ⟨#[]⟩,Iq 0,Iq 0,Iq 0,Iq 0] 226)).drew)->Cw 227 #[.slice none 0 0,Iq w] w' λe m=>e=Rw (.agg #[.string ⟨#[]⟩,Iq 0,Iq 0,Iq 0,Iq 0])/\Bt wr m/\
              (w'=(wc.alloc (.cells #[.string ⟨#[]⟩,Iq 0,Iq 0,Iq 0,Iq 0] 226)).drew->wc.heap.size<m.heap.size/\m.heap[wc.heap.size]?=some (.cells #[.string ⟨#[]⟩,Iq 0,Iq 0,Iq 0,Iq 0] 226 (0,0)))):=by
            intro w' zy;have t:Bt wr w':=by
              rcases zy with rfl|rfl;·exact bx.drew
              ·exact(bx.alloc o _).drew
            refine(F w').mono ?_;rintro e m ⟨rfl,M⟩;refine⟨rfl,t.trans (M.mono t.size),?_⟩;rintro rfl;have u:wc.heap.size<(wc.alloc (.cells #[.string ⟨#[]⟩,Iq 0,Iq 0,Iq 0,Iq 0] 226)).drew.heap.size:=by show wc.heap.size<(wc.alloc _).heap.size;rw[au];omega
            exact⟨zz007 u M.size,(M.block _ u).trans (heap_alloc_new wc _)⟩
          have zh:Hid (Cw 227 #[.slice none 0 0,Iq w] wc.drew λe m=>e=Rw (.agg #[.string ⟨#[]⟩,Iq 0,Iq 0,Iq 0,Iq 0])/\Bt wr m):=by refine(D _ (Or.inl rfl)).mono ?_;rintro e m ⟨h1,h2,_⟩;exact⟨h1,h2⟩
          have zi:Hid (Cw 227 #[.slice none 0 0,Iq w] (wc.alloc (.cells #[.string ⟨#[]⟩,Iq 0,Iq 0,Iq 0,Iq 0] 226)).drew λe m=>e=Rw (.agg #[.string ⟨#[]⟩,Iq 0,Iq 0,Iq 0,Iq 0])/\Bt wr m/\wc.heap.size<m.heap.size/\m.heap[wc.heap.size]?=some (.cells #[.string ⟨#[]⟩,Iq 0,Iq 0,Iq 0,Iq 0] 226 (0,0))):=by refine(D _ (Or.inr rfl)).mono ?_;rintro e m ⟨h1,h2,h3⟩;exact⟨h1,h2,(h3 rfl).1,(h3 rfl).2⟩
          clear F D;gi_region_with_o(refine⟨trivial,λ_=>dg,?_⟩;(first|(refine(callsIn_wide.2 zh).mono ?_;rintro e C ⟨rfl,O⟩)|(refine(callsIn_wide.2 zi).mono ?_;rintro e C ⟨rfl,O,Rc,k⟩;have q0:C.cell? (aj wc.heap.size 0)=some (.string ⟨#[]⟩):=(by simp[World.cell?,k]);have q1:C.cell? (aj wc.heap.size 1)=some (Iq 0):=(by simp[World.cell?,k]);have q2:C.cell? (aj wc.heap.size 2)=some (Iq 0):=(by simp[World.cell?,k]);have q3:C.cell? (aj wc.heap.size 3)=some (Iq 0):=(by simp[World.cell?,k]);have q4:C.cell? (aj wc.heap.size 4)=some (Iq 0):=(by simp[World.cell?,k]);have fr:∀j,C.frozen? (aj wc.heap.size j)=false:=(λj=>frozen_of_row _ _ _ _ _ k);have zk:=qH<|k;clear k)));all_goals(gi_wp2_with fail)
          all_goals(gi_meet)
          all_goals(first
            |exact⟨_,rfl,O.size,heap_alloc_new _ _,O.alloc O.size _⟩
            |exact⟨_,rfl,o,rK zk,((((O.setCell (p:=(aj wc.heap.size 0)) o _).setCell (p:=(aj wc.heap.size 1)) o _).setCell (p:=(aj wc.heap.size 2)) o _).setCell (p:=(aj wc.heap.size 3)) o _).setCell (p:=(aj wc.heap.size 4)) o _⟩)
        case rest=>
          obtain⟨B,rfl,hB,f,Q⟩:=hcut;have Vj:=Q.size;have q0:wc.cell? (aj B 0)=some (.string ⟨#[]⟩):=by simp[World.cell?,f]
          have q1:wc.cell? (aj B 1)=some (Iq 0):=by simp[World.cell?,f]
          have q2:wc.cell? (aj B 2)=some (Iq 0):=by simp[World.cell?,f]
          have q3:wc.cell? (aj B 3)=some (Iq 0):=by simp[World.cell?,f]
          have q4:wc.cell? (aj B 4)=some (Iq 0):=by simp[World.cell?,f]
          have fr:∀j,wc.frozen? (aj B j)=false:=λj=>frozen_of_row _ _ _ _ _ f;have bz:Bt wr ((wc.setCell (aj B 2) (Iq 0)).setCell (aj B 4) (Iq 3)):=(Q.setCell (p:=(aj B 2)) hB _).setCell (p:=(aj B 4)) hB _;have jz:=HJ i wr _ none zH (jU bz) (λr e=>by cases e);obtain⟨fn,zR,assign,body,hy,hR⟩:=HY i (cu l w 0) _ jz zw;rw[I.out]at hy;change(Instr.yield k0 #[.agg #[.string ⟨#[]⟩,Iq 0,Iq 0,Iq 0,Iq 3]]).run prog _=_ at hy;have HR:=qH<|hR;clear f zl hR jz;gi_wp2;refine⟨λ_=>dg,HR.mono ?_⟩;clear HR hy;rintro e W3 (⟨rfl,zb,zu⟩|⟨rfl,U⟩);·gi_wp2;refine bodyPost_ret (results_none rfl _ _ _) rfl ?_;exact⟨⟨_,rfl⟩,.inl ⟨_,HF.symm,zb⟩⟩
          ·gi_wp2;refine bodyPost_ret (results_none rfl _ _ _) rfl ?_;exact⟨⟨_,rfl⟩,.inr ⟨_,trivial,U⟩⟩
    · have zY:prog.follows .mixedOrders=true:=ns
      have zK:=tK (l.drop a) w;rw[cL]at zK;have HX:Hid (cY l w a=if(cu l w a).E=3 then[cu l w a]else cu l w a::cY l w (nO l w a)):=by
        show _=_;by_cases h:(cu l w a).E=3;·grind[jn]
        ·grind[kq]
      have zS:=qH<|nxt_lt l w a;have zA:Hid (nO l w a=a+(aM (l.drop a) w).n+(aM (l.drop a) w).d):=rfl;have _9:=(dQ l w a ha).1;have Yf:=(dQ l w 0 (aR _)).2;have hcl:∀w',Bt wr w'->∀n,a+n<=l.length->mG w' (.slice (if q=a then some (aj b 0)else some (aj b (a*2))) n (q-a)) ((l.drop a).take n):=by
        intro w' hb n hn;obtain⟨a',P5,R,_,_,hh⟩:=(yd za).below hb;cases R;rcases hh with hh|⟨b',Zm,e2,QW,UB⟩
        · subst hh;have e0:n=0:=by simp at hn;omega
          subst e0;exact⟨_,_,rfl,rn,dg,.inl rn⟩
        ·cases e2;grind[Hl]
      have zg:=qH<|hcl;have hFL:Cw 226 #[.slice (if q=a then some (aj b 0)else some (aj b (a*2))) (l.length-a) (q-a),Iq w] wr.drew λe w'=>e=Rw (.tuple #[Iq (aM (l.drop a) w).n,Iq (aM (l.drop a) w).d,Iq (aM (l.drop a) w).e])/\Bt wr w':=by have h1:=hcl wr.drew ((af _ _).drew) (l.length-a) dg;rw[eP rd]at h1;refine(lE (l.drop a) _ w wr.drew h1 (λc hc=>zz c (iI hc)) rd K zP).mono ?_;rintro e m ⟨rfl,M⟩;exact⟨rfl,((af wr.heap.size wr).drew).trans M⟩
      have F:Hid (∀w' v,lV w' v ((l.drop a).take (aM (l.drop a) w).n)->Cw 227 #[v,Iq w] w' λe m=>e=Rw (oU ((l.drop a).take (aM (l.drop a) w).n) w)/\Bt w' m):=by
        intro w' v hv;have zI:∀c∈(l.drop a).take (aM (l.drop a) w).n,0<=c.2/\c.2<=2:=λc hc=>zz c (iI (iH hc));have SU:((l.drop a).take (aM (l.drop a) w).n).length<=l.length:=by rw[b_,cL];omega
        have X':=iW _ (λc hc=>zT c (iI (iH hc)):∀c∈(l.drop a).take (aM (l.drop a) w).n,c.1.length<=20);have YI:=(bB _ zI ((l.drop a).take (aM (l.drop a) w).n).length).2;rw[io]at YI;exact re _ v w w' hv zI dg dg K (λ_=>dg)
      have zj:Hid (∃(T:List UInt8) (V:Int) (N:Nat),oU ((l.drop a).take (aM (l.drop a) w).n) w=.agg #[.string ⟨T.toArray⟩,Iq V,Iq 0,Iq N,Iq 0]/\cu l w a=⟨T,V,a,N,(aM (l.drop a) w).e⟩):=by
        by_cases zQ:w<ai ((l.drop a).take (aM (l.drop a) w).n);·exact⟨List.replicate w.toNat 32,w,1,by rw[oU,if_pos zQ];rfl,by grind[cu]⟩
        ·exact⟨aB ((l.drop a).take (aM (l.drop a) w).n),ai ((l.drop a).take (aM (l.drop a) w).n),((l.drop a).take (aM (l.drop a) w).n).length,by rw[oU,if_neg zQ];rfl,by grind[cu]⟩
      obtain⟨P,Y⟩:=ad ((aM (l.drop a) w).n);obtain⟨d1,zr⟩:=ad ((aM (l.drop a) w).d);obtain⟨R,zt⟩:=ad ((aM (l.drop a) w).e);rw[Y,zr,zt]at hFL;rw[Y]at F;rw[Y,zt]at zj;rw[Y,zr]at zA zK;have L:=qH<|hFL;obtain⟨pp,hpp⟩:=ad (if q=a then some ((aj b 0):Addr)else some (aj b (a*2)));rw[hpp]at L zg;clear hFL hcl Y zr zt;gi_wp2_with fail;gi_cut[6,7,8]from 14 (λx y z wx=>x=Iq P/\y=Iq d1/\z=Iq R/\Bt wr wx);case first=>
        gi_region_with_o(refine⟨trivial,λ_=>dg,(callsIn_wide.2 L).mono ?_⟩;rintro e C ⟨rfl,O⟩);all_goals(gi_wp2_with fail)
        all_goals(gi_meet)
        grind
      case rest=>
        obtain⟨rfl,rfl,rfl,bx⟩:=hcut;have o:=bx.size;have zl:=(bx.cell (p:=(aj H 0)) S).trans cw;have zE:H<wc.heap.size:=dg;have zG:¬H=wc.heap.size:=dg;clear cw L;obtain⟨T,V,N,zM,zL⟩:=zj.out;rw[zM]at F;have I:=qH<|zL;have hwr:IntKind.i64.wrap ((a:Int)+(P:Int))=(a:Int)+(P:Int):=by exact IntWalk.i64_in _ ⟨dg,dg⟩
        have Te:(0:Int)<=(a:Int)+(P:Int):=dg;have Vf:(a:Int)+(P:Int)<=(q:Int):=dg;have hq3:((a:Int)+(P:Int)).toNat=a+P:=dg;clear zj zM zL;gi_wp2_with fail;gi_cut[9]from 14 (λp wx=>∃B,p=Pq B/\wr.heap.size<=B/\wx.heap[B]?=some (.cells #[.string ⟨T.toArray⟩,Iq V,Iq 0,Iq N,Iq 0] 226 (0,0))/\Bt wr wx);case first=>
          have D:Hid (∀w',(w'=wc.drew\/w'=(wc.alloc (.cells #[.string ⟨#[]⟩,Iq 0,Iq 0,Iq 0,Iq 0] 226)).drew)->Cw 227 #[.slice pp P (q-a),Iq w] w' λe m=>e=Rw (.agg #[.string ⟨T.toArray⟩,Iq V,Iq 0,Iq N,Iq 0])/\Bt wr m/\
              (w'=(wc.alloc (.cells #[.string ⟨#[]⟩,Iq 0,Iq 0,Iq 0,Iq 0] 226)).drew->wc.heap.size<m.heap.size/\m.heap[wc.heap.size]?=some (.cells #[.string ⟨#[]⟩,Iq 0,Iq 0,Iq 0,Iq 0] 226 (0,0)))):=by
            intro w' zy;have t:Bt wr w':=by
              rcases zy with rfl|rfl;·exact bx.drew
              ·exact(bx.alloc o _).drew
            refine(F w' _ (zg w' t P dg).cls).mono ?_;rintro e m ⟨rfl,M⟩;refine⟨rfl,t.trans (M.mono t.size),?_⟩;rintro rfl;have u:wc.heap.size<(wc.alloc (.cells #[.string ⟨#[]⟩,Iq 0,Iq 0,Iq 0,Iq 0] 226)).drew.heap.size:=by show wc.heap.size<(wc.alloc _).heap.size;rw[au];omega
            exact⟨zz007 u M.size,(M.block _ u).trans (heap_alloc_new wc _)⟩
          have zh:Hid (Cw 227 #[.slice pp P (q-a),Iq w] wc.drew λe m=>e=Rw (.agg #[.string ⟨T.toArray⟩,Iq V,Iq 0,Iq N,Iq 0])/\Bt wr m):=by refine(D _ (Or.inl rfl)).mono ?_;rintro e m ⟨h1,h2,_⟩;exact⟨h1,h2⟩
          have zi:Hid (Cw 227 #[.slice pp P (q-a),Iq w] (wc.alloc (.cells #[.string ⟨#[]⟩,Iq 0,Iq 0,Iq 0,Iq 0] 226)).drew λe m=>e=Rw (.agg #[.string ⟨T.toArray⟩,Iq V,Iq 0,Iq N,Iq 0])/\Bt wr m/\wc.heap.size<m.heap.size/\m.heap[wc.heap.size]?=some (.cells #[.string ⟨#[]⟩,Iq 0,Iq 0,Iq 0,Iq 0] 226 (0,0))):=by refine(D _ (Or.inr rfl)).mono ?_;rintro e m ⟨h1,h2,h3⟩;exact⟨h1,h2,(h3 rfl).1,(h3 rfl).2⟩
          clear F zg D;gi_region_with_o(refine⟨trivial,λ_=>dg,?_⟩;(first|(refine(callsIn_wide.2 zh).mono ?_;rintro e C ⟨rfl,O⟩)|(refine(callsIn_wide.2 zi).mono ?_;rintro e C ⟨rfl,O,Rc,k⟩;have q0:C.cell? (aj wc.heap.size 0)=some (.string ⟨#[]⟩):=(by simp[World.cell?,k]);have q1:C.cell? (aj wc.heap.size 1)=some (Iq 0):=(by simp[World.cell?,k]);have q2:C.cell? (aj wc.heap.size 2)=some (Iq 0):=(by simp[World.cell?,k]);have q3:C.cell? (aj wc.heap.size 3)=some (Iq 0):=(by simp[World.cell?,k]);have q4:C.cell? (aj wc.heap.size 4)=some (Iq 0):=(by simp[World.cell?,k]);have fr:∀j,C.frozen? (aj wc.heap.size j)=false:=(λj=>frozen_of_row _ _ _ _ _ k);have zk:=qH<|k;clear k)));all_goals(gi_wp2_with fail)
          all_goals(gi_meet)
          all_goals(first
            |exact⟨_,rfl,O.size,heap_alloc_new _ _,O.alloc O.size _⟩
            |exact⟨_,rfl,o,rK zk,((((O.setCell (p:=(aj wc.heap.size 0)) o _).setCell (p:=(aj wc.heap.size 1)) o _).setCell (p:=(aj wc.heap.size 2)) o _).setCell (p:=(aj wc.heap.size 3)) o _).setCell (p:=(aj wc.heap.size 4)) o _⟩)
        case rest=>
          obtain⟨B,rfl,hB,f,Q⟩:=hcut;have Vj:=Q.size;have q0:wc.cell? (aj B 0)=some (.string ⟨T.toArray⟩):=by simp[World.cell?,f]
          have q1:wc.cell? (aj B 1)=some (Iq V):=by simp[World.cell?,f]
          have q2:wc.cell? (aj B 2)=some (Iq 0):=by simp[World.cell?,f]
          have q3:wc.cell? (aj B 3)=some (Iq N):=by simp[World.cell?,f]
          have q4:wc.cell? (aj B 4)=some (Iq 0):=by simp[World.cell?,f]
          have fr:∀j,wc.frozen? (aj B j)=false:=λj=>frozen_of_row _ _ _ _ _ f;have bz:Bt wr ((wc.setCell (aj B 2) (Iq a)).setCell (aj B 4) (Iq R)):=(Q.setCell (p:=(aj B 2)) hB _).setCell (p:=(aj B 4)) hB _;have jz:=HJ i wr _ none zH (jU bz) (λr e=>by cases e);have zw:i.length<l.length+1:=by have :=congrArg List.length A;rw[aU]at this;omega
          obtain⟨fn,zR,assign,body,hy,hR⟩:=HY i (cu l w a) _ jz zw;rw[I.out]at hy;dsimp only[QA]at hy;have HR:=qH<|hR;clear f zl hR jz;gi_wp2;refine⟨λ_=>dg,HR.mono ?_⟩;clear HR hy;rintro e W3 (⟨rfl,zb,zu⟩|⟨rfl,U⟩)
          · have zv:=qH<|keepL_row zu (BR za bz);have zJ:=qH<|(zu.2.trans (bz.block H S)).trans zq;have hE:(cu l w a).E=R:=by rw[I.out]
            by_cases h3:R=3
            · have HF:Hid (a_ l w=i++[cu l w a]):=by show _=_;rw[HE.out,<-A.out,HX.out,if_pos (by rw[hE,h3])]
              clear hE;subst h3;gi_wp2;refine bodyPost_ret (results_none rfl _ _ _) rfl ?_;exact⟨⟨_,rfl⟩,.inl ⟨_,HF.symm,zb⟩⟩
            · have Z:(cu l w a).E≠3:=by rw[hE];exact h3
              have zZ:=zS Z;have HF:Hid ((i++[cu l w a])++cY l w (nO l w a)=cY l w 0):=by show _=_;rw[<-A.out,HX.out,if_neg Z];simp
              have hnx':=zA.out;have zB:=qH<|hnx';rw[zB.out]at HF zZ;clear hE Z hnx';gi_wp2;go_roundw;case rel=>exact⟨a+P+d1,i++[cu l w a],by go_num,dg,HF,zv,zJ,zb⟩
              case measure=>simp[intOf];omega
          ·gi_wp2;refine bodyPost_ret (results_none rfl _ _ _) rfl ?_;exact⟨⟨_,rfl⟩,.inr ⟨_,trivial,U⟩⟩
attribute[local go_sem] Oper.semAt_some
theorem tP{a B}(m:a<B)W l o d(n:B<=l)(h:W.heap[l]?=some o)(g:o.isCells=false)(_:o.isWalk=false):iN a W (W.putObj l d):=by have b:=grownBy_putObj' W l d;have i:=(aD.1 h).1;refine⟨λk c j e=>?_,b.block a dg (λe=>rd)⟩;refine(b.block k (aD.1 e).1 (λf=>?_)).trans e;cases f;rw[h]at e;cases e;cases g
theorem qI n(q:3<=n)a d s w l(p:aG (ak s.data.toList)=l)(r:s.size<=68719476736)(h:-9223372036854775808<=w)(i:w<=9223372036854775807)e(t:bN e)(c:e.heap[a]?=some (.cells #[Iq w] 3 (0,0)))(b:e.heap[d]?=some (.cells #[.string s] 9 (0,0))):
 SeqStopsK Fence.wide n prog 225 #[Pq a,Pq d] QA (iN a) (λv=>v=a_ l w) (λ_=>True) (l.length+1) e:=λu J j W f m _ o k=>
 Hy n q u a d s w l p r h i J j W m o (λx g=>(t.below f).below g)
  ((f.block a (aD.1 c).1).trans c) ((f.block d (aD.1 b).1).trans b) k
theorem wW(s:ByteArray)(w:Int)(W:World):
 Cw 189 #[.string s,Iq w] W λe w'=>e=Rw (.func (.func 225) #[] #[Pq (W.heap.size+1),Pq W.heap.size])/\w'=(W.alloc (.cells #[.string s] 9)).alloc (.cells #[Iq w] 3):=by go_enter func189,ntmps189;go_wp2;go_ret;simp_all
theorem II{W}{B a}{v v' x}(d:a≠B)(h:Boxed W B 3 v)(g:Boxed W a 3 x):iN a W (W.setCell (aj B 0) v')/\Boxed (W.setCell (aj B 0) v') a 3 x:=by
 have f:=Boxed.other g d v';refine⟨⟨λj c i e=>?_,f.trans g.symm⟩,f⟩;have b:j≠B:=by rintro rfl;rw[show W.heap[j]?=_ from h]at e;cases e
 rw[heap_setCell_other _ _ _ _ b];exact e
theorem EW(s:ByteArray)(w:Int)(W:World)(R:bN W)(y:s.size<=68719476736)(B:-9223372036854775808<=w)(C:w<=9223372036854775807):
 Cw 233 #[.string s,Iq w] W λe d=>e=Rw (Iq (a_ (aG (ak s.data.toList)) w).length)/\Bt W d:=by
 have z:s.data.toList.length=s.size:=by rw[dZ];rfl
 have M:=aX s.data.toList;have L:=bu (ak s.data.toList);rw[z]at M;obtain⟨l,G⟩:=ad (aG (ak s.data.toList));rw[G]at L⊢;refine(callsIn_wide (n:=6)).1 ?_;refine callsIn_of_wp_marks func233 rfl trivial ?_ rfl;simp only[ntmps233,jh,dP,fP,Nat.reduceAdd,Nat.reduceSub,pf,ph,pi,pm,po,lT];gi_wp2_with fail;refine⟨trivial,(callsIn_wide.2 (wW s w _)).mono ?_⟩;rintro e w' ⟨rfl,rfl⟩;have I:=Boxed.new W 3 (Iq 0);obtain⟨f,b⟩:=ad (((W.alloc (.cells #[Iq 0] 3)).alloc (.cells #[.string s] 9)).alloc (.cells #[Iq w] 3));have t:Boxed f W.heap.size 3 (Iq 0):=by rw[<-b];exact(I.alloc _).alloc _
 have u:Boxed f (W.heap.size+1) 9 (.string s):=by rw[<-b];have:=Boxed.new (W.alloc (.cells #[Iq 0] 3)) 9 (.string s);rw[au]at this;exact this.alloc _
 have i:Boxed f (W.heap.size+2) 3 (Iq w):=by rw[<-b];have:=Boxed.new ((W.alloc (.cells #[Iq 0] 3)).alloc (.cells #[.string s] 9)) 3 (Iq w);rw[au,au]at this;exact this
 have j:Bt W f:=by rw[<-b];exact(((af _ W).alloc (ae _) _).alloc rn _).alloc (by simp;omega) _
 have Q:f.heap.size=W.heap.size+3:=by rw[<-b];simp
 have A:=R.below j;rw[au,b];gi_wp2;refine wpIn_rangeFunc_ownG rfl dg (gf:=225) (lb:=#[Pq (W.heap.size+2),Pq (W.heap.size+1)]) rfl trivial (enters_of func225 ns rfl)
  (qI 5 dg (W.heap.size+2) (W.heap.size+1) s w l G y B C f A i u) iN.trans (tP dg) (af _ _) (λ_=>rfl)
  (λa d=>(Boxed d W.heap.size 3 (Iq a.length)/\Boxed d (W.heap.size+2) 3 (Iq w))/\Bt W d)
  (λ_ _ _=>False)
  (OwnFrom.and (OwnFrom.and (Own.from (boxed_own W.heap.size 3 (λa:List Ln=>Iq (a.length:Int))) _) (Own.from (boxed_own _ _ _) _)) (ownFrom_below (ae _) dg))
  (λ_ _ _ _ _ y _ _=>y)
  ⟨⟨t,i⟩,j⟩
  (λx=>{tmps:=#[.string s,Iq w,undef,undef,Iq 0,Pq W.heap.size,.string s,Iq w,.func (.func 225) #[] #[Pq (W.heap.size+2),Pq (W.heap.size+1)],.agg (bZ x).toArray,undef,undef,undef],defers:=[]})
  ?assign ?body ?done ?stop;case assign=>rintro S ⟨T,V,F,N,E⟩ d K k;dsimp only[QA,bZ]at k⊢;gi_wp2;simpa using k
 case body=>rintro S a x d ⟨⟨g,m⟩,r⟩ P;have O:=g.cell;have Y:=g.frozen;have J:=r.size;gi_wp2;obtain⟨v,o⟩:=II (v':=Iq ((a.length:Int)+1)) dg g m;exact⟨(KeepsOthers.setCell _ _ _).from _,v,⟨by have:=g.set (Iq ((a.length:Int)+1));grind,o⟩,r.setCell (p:=(aj W.heap.size 0)) (ae _) _⟩
 case done=>rintro D ys d X rfl ⟨⟨g,m⟩,r⟩ k;have O:=g.cell;gi_wp2;refine⟨rn,.inl ⟨_,_,rfl,run_takeDeferred k,?_⟩⟩;exact⟨_,results_tmp rfl _ _ _,rfl,r.trans (belowK_b (w:=W) (ae _) d D _ _ dg k rfl rfl)⟩
 case stop=>rintro D c a d _ _ h _;exact h.elim
attribute[local go_sem] Oper.semAt_some
theorem Iv:(prog.info? 226).map (λi=>(i.zero,i.size,i.bytes))=some (some (.agg #[.string ⟨#[]⟩,Iq 0,Iq 0,Iq 0,Iq 0]),5,48):=ns
theorem DE{W:World}{f k}{v}{i}(h:W.ownsRow f 226 5 v k i){j}{c}{t}{d}(m:W.heap[j]?=some (.cells c t d))(n:t≠226):some j≠v.ownBlock:=by
 rcases h.2 with⟨rfl,_⟩|⟨g,a,b,rfl,_,l,_⟩;·simp[Value.ownBlock]
 ·intro e;obtain rfl:j=g:=by simpa[Value.ownBlock]using e
  grind
theorem IF{W n}{q B g k}{t}{v v' x}{r}{f}(l:t≠222)(d:g≠B)(p:Boxed W B t v)(b:W.ownsRow q 226 5 v k r)(m:Boxed W g 3 x)(a:(W.alloc f).grownBy n v.ownBlock):
 iN g W (n.setCell (aj B 0) v')/\Boxed (n.setCell (aj B 0) v') g 3 x:=by
 have o:=Boxed.other ((m.alloc f).kept a (DE b m (by decide))) d v';refine⟨⟨λj c s e=>?_,o.trans m.symm⟩,o⟩;have i:=(aD.1 e).1;have h:j≠B:=by rintro rfl;rw[show W.heap[j]?=_ from p]at e;cases e;exact l rfl
 rw[heap_setCell_other _ _ _ _ h];exact(a.block j (by rw[au];omega) (DE b e (by decide))).trans ((cK _ _ _ i).trans e)
theorem xC{W}{a}{x}(h:Boxed W a 3 x)o:iN a W (W.alloc o):=
 ⟨λk c b e=>(cK _ _ _ (aD.1 e).1).trans e,cK _ _ _ h.lt⟩
theorem Fx(s:ByteArray)(w:Int)(W:World)(ht:bN W)(U:s.size<=68719476736)(za:-9223372036854775808<=w)(zb:w<=9223372036854775807):
 Cw 137 #[.string s,Iq w] W λe d=>∃v,e=Rw v/\d.ownsRow W.heap.size 226 5 v (a_ (aG (ak s.data.toList)) w).length (fT (a_ (aG (ak s.data.toList)) w))/\Bt W d:=by
 have X:s.data.toList.length=s.size:=by rw[dZ];rfl
 have hR:=aX s.data.toList;have hC:=bu (ak s.data.toList);rw[X]at hR;obtain⟨l,hl⟩:=ad (aG (ak s.data.toList));rw[hl]at hC⊢;obtain⟨i0,hi,zc,ze,zg⟩:=info_parts Iv;refine(callsIn_wide (n:=6)).1 ?_;refine callsIn_of_wp_marks func137 rfl trivial ?_ rfl;simp only[ntmps137,jh,dP,fP,Nat.reduceAdd,Nat.reduceSub,pf,ph,pi,pm,po,lT];gi_wp2_with fail;refine⟨trivial,(callsIn_wide.2 (wW s w _)).mono ?_⟩;rintro e w' ⟨rfl,rfl⟩;have bO:=Boxed.new W 224 (.slice none 0 0);obtain⟨q,f⟩:=ad (((W.alloc (.cells #[.slice none 0 0] 224)).alloc (.cells #[.string s] 9)).alloc (.cells #[Iq w] 3));have J:Boxed q W.heap.size 224 (.slice none 0 0):=by rw[<-f];exact(bO.alloc _).alloc _
 have L:Boxed q (W.heap.size+1) 9 (.string s):=by rw[<-f];have:=Boxed.new (W.alloc (.cells #[.slice none 0 0] 224)) 9 (.string s);rw[au]at this;exact this.alloc _
 have y:Boxed q (W.heap.size+2) 3 (Iq w):=by rw[<-f];have:=Boxed.new ((W.alloc (.cells #[.slice none 0 0] 224)).alloc (.cells #[.string s] 9)) 3 (Iq w);rw[au,au]at this;exact this
 have C:Bt W q:=by rw[<-f];exact(((af _ W).alloc (ae _) _).alloc rn _).alloc (by simp;omega) _
 have zn:q.heap.size=W.heap.size+3:=by rw[<-f];simp
 have Y:=ht.below C;rw[au,f];gi_wp2;refine wpIn_rangeFunc_ownH rfl dg (gf:=225) (lb:=#[Pq (W.heap.size+2),Pq (W.heap.size+1)]) rfl trivial (enters_of func225 ns rfl)
  (qI 5 dg (W.heap.size+2) (W.heap.size+1) s w l hl U za zb q Y y L) iN.trans (tP dg) (af _ _) (λ_=>rfl)
  (λb d=>((∃v,Boxed d W.heap.size 224 v/\d.ownsRow W.heap.size 226 5 v b.length (fT b)/\True)/\Boxed d (W.heap.size+2) 3 (Iq w))/\Bt W d)
  (λ_ _ _=>False)
  (OwnFrom.and (OwnFrom.and (Own.from (holdsRow_own W.heap.size W.heap.size 224 226 5 (λb:List Ln=>b.length) (λb=>fT b) (λ_ _=>True)) _) (Own.from (boxed_own _ _ _) _)) (ownFrom_below (ae _) dg))
  (λ_ _ _ _ _ U _ _=>U)
  ⟨⟨⟨_,J,eO _ _ _ _,trivial⟩,y⟩,C⟩
  (λx a' d=>∃m,d.heap[m]?=some (.cells (bZ x).toArray 226 (0,0))/\a'={tmps:=#[.string s,Iq w,undef,undef,.slice none 0 0,Pq W.heap.size,Pq m,.string s,Iq w,.func (.func 225) #[] #[Pq (W.heap.size+2),Pq (W.heap.size+1)],.agg (bZ x).toArray,undef,undef,undef,undef,undef],defers:=[]})
  ?hAx ?assign ?body ?done ?stop;case hAx=>rintro x a' _ A B row ⟨m,M,h3⟩ hg hr;refine⟨m,(hg.block m (aD.1 M).1 (λe=>?_)).trans M,h3⟩;obtain⟨_,o,ho,Q⟩:=hr m e.symm;rw[M]at ho;cases ho;cases Q
 case assign=>rintro k0 b ⟨T,V,F,N,E⟩ d K ⟨⟨⟨v,p,a,_⟩,g⟩,k⟩ t;dsimp only[QA,bZ]at t⊢;have O:=k.size;gi_wp2;exact t _ _ ((KeepsOthers.alloc _ _).from _) (xC g _) ⟨⟨⟨v,p.alloc _,a.alloc _,trivial⟩,g.alloc _⟩,k.alloc k.size _⟩ ⟨d.heap.size,heap_alloc_new _ _,rfl⟩
 case body=>rintro k0 b x a' d zk ⟨r,hr⟩ ⟨⟨⟨v,p,a,_⟩,g⟩,k⟩ ⟨m,hx,rfl⟩ zl;have Q:=p.cell;obtain⟨x0,x1,x2,x3,x4⟩:=EH hx;have HX:Hid (d.heap[m]?=some (.cells (bZ x).toArray 226 (0,0))):=hx;have O:=k.size;clear hx;gi_wp2_with(gi_at_builtin;refine wpListIn_append_own _ rfl _ _ 224 rfl W.heap.size 226 i0 (.agg #[.string ⟨#[]⟩,Iq 0,Iq 0,Iq 0,Iq 0]) 5 48 underlying224 hi zc ze zg rfl (by decide) _ _ _ rfl (a.alloc _) (aj d.heap.size 0) 1 1 (bZ x) rfl rfl (xQ _ _ _) (by intro u hu;simp[bZ]at hu;rcases hu with rfl|rfl|rfl|rfl|rfl<;>rfl) (by unfold maxLen;omega) dg (by simp;omega) ?_;intro v' w1 j i _;obtain⟨g',z,rfl⟩:=ownsRow_succ j;obtain⟨H,Z,zm,R,P⟩:=p.appended (by decide) a k.size (ae _) j i;obtain⟨S,G⟩:=IF (v':=Sq g' (b.length+1) z) (by decide) dg p a g i;have zi:=H.cell;have zj:=H.frozen);exact⟨R.from _,S,⟨⟨_,Z,by grind[kj],trivial⟩,G⟩,k.trans P⟩
 case done=>rintro D ys d hD rfl ⟨⟨⟨v,p,a,_⟩,g⟩,k⟩ t;have Q:=p.cell;gi_wp2;refine⟨rn,.inl ⟨_,_,rfl,run_takeDeferred t,?_⟩⟩;exact⟨_,results_tmp rfl _ _ _,v,rfl,ownsRow_putObj a _ t rfl,k.trans (belowK_b (w:=W) (ae _) d D _ _ dg t rfl rfl)⟩
 case stop=>rintro D c b d _ _ h _;exact h.elim
attribute[local go_sem] Oper.semAt_some
def sZ(id:Int)(dM off:Nat->Int):Nat->Int
 |0=>0
 |k+1=>if dM k=id then off k else sZ id dM off k
def fi(id:Int)(dM off:Nat->Int)(n:Nat):Int:=if id=0 then 0 else sZ id dM off n
def gt(n:Nat):List Nat:=(List.range n).reverse
theorem i_ n:gt (n+1)=n::gt n:=by unfold gt;rw[jM,List.reverse_append];rfl
theorem rj id c off:∀  n k   b,b++gt k=gt n->k<=n->(∀i∈b,c i≠id)->sZ id c off n=sZ id c off k
 |0,k,b,h,g,_=>rd
 |n+1,k,b,h,g,hp=>by
  by_cases e:k=n+1;·rw[e]
  ·rw[i_]at h;cases b with
   |nil=>have:=congrArg List.length h;grind[gt]
   |cons a b=>rw[lT]at h;injection h with h1 f;have d:=hp a rn;rw[h1]at d;have hu:sZ id c off (n+1)=sZ id c off n:=if_neg d;rw[hu];exact rj id c off n k b f dg (λi hi=>hp i (by simp[hi]))
def jB(W:World)(p:Option Addr)(n:Nat)(dM off:Nat->Int):Prop:=n=0\/∃b o,p=some (aj b o)/\b<W.heap.size/\∀j,j<n->W.cell? (aj b (o+j*2))=some (Iq (dM j))/\W.cell? (aj b (o+j*2+1))=some (Iq (off j))
def mH(Bx:Nat)(p:Option Addr)(W W':World):Prop:=W'.heap[Bx]?=W.heap[Bx]?/\∀a:Addr,p=some a->W'.heap[a.block]?=W.heap[a.block]?
theorem mH.trans{b}{p}{A B C}(h:mH b p A B)(k:mH b p B C):mH b p A C:=⟨k.1.trans h.1,λa e=>(k.2 a e).trans (h.2 a e)⟩
theorem jB.keep{W d}{k}{p}{n}{c off}(h:jB W p n c off)(l:mH k p W d):jB d p n c off:=by
 rcases h with h|⟨b,o,e,h1,f⟩;·exact .inl h
 ·have g:d.heap[b]?=W.heap[b]?:=l.2 _ e;refine .inr ⟨b,o,e,?_,λj i=>⟨(bf (a:=(aj b (o+j*2))) g).trans (f j i).1,(bf (a:=(aj b (o+j*2+1))) g).trans (f j i).2⟩⟩;grind
theorem jB.below{W W'}{p}{n}{a off}(h:jB W p n a off)(c:Bt W W'):jB W' p n a off:=by
 rcases h with h|⟨b,o,e,h1,d⟩;·exact .inl h
 ·exact .inr ⟨b,o,e,zz007 h1 c.size,λj f=>⟨(c.cell (p:=(aj b _)) h1).trans (d j f).1,(c.cell (p:=(aj b _)) h1).trans (d j f).2⟩⟩
def TH(dM off:Nat->Int)(i:Nat):Array Value:=#[Iq (i:Int),.agg #[Iq (dM i),Iq (off i)]]
theorem uO(n:Nat)(V:3<=n)(g N c:Nat)(p:Option Addr)(f off:Nat->Int)(T:N<=4611686018427387904)(t:World)(O:jB t p N f off)(y:t.heap[g]?=some (.cells #[.slice p N c] 23 (0,0))):
 SeqStopsK Fence.wide n prog 210 #[Pq g] (TH f off) (mH g p) (λP=>P=gt N) (λa=>∃k,k<=N/\a++gt k=gt N) N t:=by
 intro X J Q W x S I L h0;have q:=(x.block g (aD.1 y).1).trans y;have F:W.cell? (aj g 0)=some (.slice p N c):=by simp[World.cell?,q]
 have C:Hid (W.heap[g]?=some (.cells #[.slice p N c] 23 (0,0))/\jB W p N f off):=⟨q,O.below x⟩;have E:=qH<|L;have A:=qH<|h0;refine callsIn_of_wp func210 rfl trivial ?_ rfl;simp only[ntmps210,jh,dP,fP,Nat.reduceAdd,Nat.reduceSub,pf,ph,pi,pm,po,lT];gi_wp2;gi_loopw[3] (λv wr=>∃(k:Nat) (a:List Nat),k<=N/\v=Iq ((k:Int)-1)/\Hid (a++gt k=gt N)/\Hid (wr.heap[g]?=some (.cells #[.slice p N c] 23 (0,0))/\jB wr p N f off)/\Hid (J a wr)) (λv _=>(intOf v+1).toNat);case atStart=>grind
 case round=>
  obtain⟨k,a,U,rfl,d,r,h⟩:=hrel;cases k with
  |zero=>gi_wp2;go_end0;exact⟨⟨_,rfl⟩,.inl ⟨_,by have:=d.out;simp_all[gt],h⟩⟩
  |succ i=>
   have G:((i+1:Nat):Int)-1=(i:Int):=dg;rw[G];have u:a.length<N:=by have h1:=congrArg List.length d;rw[aU]at h1;simp[gt]at h1;omega
   have F:wr.cell? (aj g 0)=some (.slice p N c):=by simp[World.cell?,r.1]
   obtain⟨b,o,rfl,M,l⟩:=r.2.resolve_left dg;have R:=(l i dg).1;have c1:=(l i dg).2;obtain⟨fn,z,assign,body,hy,K⟩:=E a i wr h u;dsimp only[TH]at hy;have B:=qH<|K;have s:Hid ((a++[i])++gt i=gt N):=by show _=_;rw[<-d.out,i_];simp
   gi_wp2;refine⟨λ_=>dg,B.mono ?_⟩;rintro e w (⟨rfl,H,m⟩|⟨rfl,j⟩)
   ·have D:Hid (w.heap[g]?=some (.cells #[.slice (some (aj b o)) N c] 23 (0,0))/\jB w (some (aj b o)) N f off):=⟨m.1.trans r.1,r.2.keep m⟩;gi_wp2;go_roundw;case rel=>grind
    case measure=>simp[intOf]<;>omega
   ·gi_wp2;refine bodyPost_ret (results_none rfl _ _ _) rfl ?_;exact⟨⟨_,rfl⟩,.inr ⟨_,⟨i,dg,s⟩,j⟩⟩
theorem uP(p:Option Addr)(N c:Nat)(W:World):
 Cw 169 #[.slice p N c] W λe w'=>e=Rw (.func (.func 210) #[] #[Pq W.heap.size])/\w'=W.alloc (.cells #[.slice p N c] 23):=by go_enter func169,ntmps169;go_wp2;go_ret;simp_all
theorem Fo{b B}{p}(d:b<B)(h1:∀a,p=some a->a.block<B)W l o c(f:B<=l)(_:W.heap[l]?=some o)(_:o.isCells=false)(_:o.isWalk=false):mH b p W (W.putObj l c):=
 ⟨World.putObj_heap_other dg,λa e=>World.putObj_heap_other rd⟩
theorem Hh{W:World}{B}{x y}{t}(h:W.heap[B]?=some (.cells #[x,y] t (0,0))):W.cell? (aj B 0)=some x/\W.cell? (aj B 1)=some y:=by simp[World.cell?,h]
theorem BN(id:Int)(p:Option Addr)(N c:Nat)(b off:Nat->Int)(U:World)(hs:jB U p N b off)(hN:N<=4611686018427387904)(hp:∀a:Addr,p=some a->a.block<U.heap.size):
 Calls prog 90 #[Iq id,.slice p N c] U λe U'=>e=.returned (Iq (fi id b off N))/\Below U.heap.size U U':=by
 by_cases h0:id=0;·subst h0;have L:Hid (fi 0 b off N=0):=if_pos rfl;have HB:Hid (Below U.heap.size U ((U.alloc (.cells #[Iq 0] 3)).alloc (.cells #[Iq 0] 3))):=((af _ U).alloc (ae _) _).alloc rn _;go_enter func90,ntmps90;go_wp2;refine bodyPost_ret (v:=Iq 0) (by simp[results,Tryz.results90,go_sem]) rfl ⟨by rw[L.out],HB⟩
 ·have L:Hid (fi id b off N=sZ id b off N):=if_neg h0;refine(callsIn_wide (n:=6)).1 ?_;refine callsIn_of_wp_marks func90 rfl trivial ?_ rfl;simp only[ntmps90,jh,dP,fP,Nat.reduceAdd,Nat.reduceSub,pf,ph,pi,pm,po,lT];gi_wp2_with fail;refine⟨trivial,(callsIn_wide.2 (uP p N c _)).mono ?_⟩;rintro e w' ⟨rfl,rfl⟩;obtain⟨S,hS⟩:=ad U.heap.size;obtain⟨u,l⟩:=ad (((U.alloc (.cells #[Iq id] 3)).alloc (.cells #[Iq 0] 3)).alloc (.cells #[.slice p N c] 23));have bI:Boxed u S 3 (Iq id):=by rw[<-l,<-hS];exact((Boxed.new U 3 (Iq id)).alloc _).alloc _
  have bR:Boxed u (S+1) 3 (Iq 0):=by rw[<-l,<-hS];have:=Boxed.new (U.alloc (.cells #[Iq id] 3)) 3 (Iq 0);rw[au]at this;exact this.alloc _
  have bX:Boxed u (S+2) 23 (.slice p N c):=by rw[<-l,<-hS];have:=Boxed.new ((U.alloc (.cells #[Iq id] 3)).alloc (.cells #[Iq 0] 3)) 23 (.slice p N c);rw[au,au]at this;exact this
  have H:Below S U u:=by rw[<-l,<-hS];exact(((af _ U).alloc (ae _) _).alloc rn _).alloc (by simp;omega) _
  have zj:u.heap.size=S+3:=by rw[<-l];simp;omega
  have zc:=hs.below (by subst hS;exact H);have zb:∀a:Addr,p=some a->a.block<S:=λa e=>rd
  rw[au,au,l];gi_wp2;refine wpIn_rangeFunc_ownH rfl dg (gf:=210) (lb:=#[Pq (S+1+1)]) rfl trivial (enters_of func210 ns rfl)
   (uO 5 dg (S+1+1) N c p b off hN u zc bX) mH.trans (Fo dg (λa e=>rd)) (af _ _) (λ_=>rfl)
   (λf d=>(((Boxed d S 3 (Iq id)/\Boxed d (S+1) 3 (Iq 0))/\Boxed d (S+1+1) 23 (.slice p N c))/\Below S U d)/\∀i∈f,b i≠id)
   (λT f d=>∃j x,f=j++[x]/\b x=id/\(∀i∈j,b i≠id)/\Boxed d (S+1) 3 (Iq (off x))/\Below S U d/\T=.ret)
   (OwnFrom.and (OwnFrom.and (OwnFrom.and (OwnFrom.and (Own.from (boxed_own S 3 (λ_:List Nat=>Iq id)) _) (Own.from (boxed_own (S+1) 3 (λ_:List Nat=>Iq 0)) _)) (Own.from (boxed_own (S+1+1) 23 (λ_:List Nat=>Value.slice p N c)) _)) (ownFrom_below dg dg)) (λ_ _ _ _ h _ _=>h))
   (λT f A B row ⟨j,x,F,V,W,X,m,Y⟩ O J=>⟨j,x,F,V,W,(Own.from (boxed_own (S+1) 3 (λ_:Unit=>Iq (off x))) u.heap.size) () A B row X O J,(ownFrom_below (β:=Unit) (n₀:=S) (w₀:=U) dg dg) () A B row m O J,Y⟩)
   ⟨⟨⟨⟨bI,bR⟩,bX⟩,H⟩,λi hi=>by cases hi⟩
   (λx a' d=>∃s,d.heap[s]?=some (.cells #[Iq (b x),Iq (off x)] 33 (0,0))/\a'={tmps:=#[Iq id,.slice p N c,Pq S,undef,Pq (S+1),undef,Pq s,Iq id,.bool false,.slice p N c,.func (.func 210) #[] #[Pq (S+1+1)],Iq (x:Int),.agg #[Iq (b x),Iq (off x)],undef,undef,undef,undef,undef,undef],defers:=[]})
   ?hAx ?assign ?body ?done ?stop;case hAx=>rintro x a' _ A B row ⟨s,g,y⟩ O J;refine⟨s,(O.block s (aD.1 g).1 (λe=>?_)).trans g,y⟩;obtain⟨_,o,ho,Y⟩:=J s e.symm;rw[g]at ho;cases ho;cases Y
  case assign=>rintro k0 f x d K ⟨⟨⟨⟨h1,g⟩,y⟩,m⟩,G⟩ z;dsimp only[TH]at z⊢;have za:∀o,mH (S+1+1) p d (d.alloc o):=λo=>⟨cK _ _ _ y.lt,λa e=>cK _ _ _ (by have:=zb a e;have:=h1.lt;omega)⟩;gi_wp2;exact z _ _ ((KeepsOthers.alloc _ _).from _) (za _) ⟨⟨⟨⟨h1.alloc _,g.alloc _⟩,y.alloc _⟩,m.alloc (by have:=h1.lt;omega) _⟩,G⟩ ⟨d.heap.size,heap_alloc_new _ _,rfl⟩
  case body=>
   rintro k0 f x a' d zh ⟨r,J⟩ ⟨⟨⟨⟨h1,g⟩,y⟩,m⟩,G⟩ ⟨s,Q,rfl⟩ zi;have c1:=h1.cell;have c2:=g.cell;have f2:=g.frozen;obtain⟨x0,x1⟩:=Hh Q;by_cases hid:b x=id;·have HE:Hid (Boxed (d.setCell (aj (S+1) 0) (Iq (off x))) (S+1) 3 (Iq (off x))/\Below S U (d.setCell (aj (S+1) 0) (Iq (off x)))):=⟨g.set _,m.setCell (p:=(aj (S+1) 0)) rd _⟩;rw[hid]at x0;gi_wp2;exact⟨(KeepsOthers.setCell _ _ _).from _,f,x,rfl,hid,G,HE.1,HE.2,rfl⟩
   ·have F:(b x==id)=false:=by simpa using hid
    gi_wp2;exact⟨(KeepsOthers.refl _).from _,⟨rfl,λ_ _=>rfl⟩,⟨⟨⟨h1,g⟩,y⟩,m⟩,λi hi=>rd⟩
  case done=>
   rintro D ys d hD rfl ⟨⟨⟨⟨h1,g⟩,y⟩,m⟩,G⟩ z;have c2:=g.cell;have f2:=g.frozen;have t:Hid (fi id b off N=0):=by show _=_;rw[L.out,rj id b off N 0 (gt N) (by simp[gt]) (aR _) G];rfl
   have I:(d.setCell (aj (S+1) 0) (Iq 0)).heap[D]?=some (.deferred (some [])):=(bK d (aj (S+1) 0) _ D rd).trans z;have C:=(g.set (Iq 0)).kept (grownBy_putObj' _ D (.deferred none)) rd;have E:=C.cell;have R:Hid (Below S U ((d.setCell (aj (S+1) 0) (Iq 0)).putObj D (.deferred none))):=(m.setCell (p:=(aj (S+1) 0)) rd _).trans (belowK_b (w:=U) dg _ D _ _ dg I rfl rfl);gi_wp2;refine⟨rn,.inl ⟨_,_,rfl,run_takeDeferred I,?_⟩⟩;exact⟨Iq 0,by simp[results,Tryz.results90,go_sem,E],by rw[t.out],by rw[hS];exact R⟩
  case stop=>
   rintro D T f d hD ⟨k,hk,q⟩ ⟨j,x,F,V,W,X,m,rfl⟩ z;have t:Hid (fi id b off N=off x):=by
    show _=_;have P:j++gt (k+1)=gt N:=by
     have:=q;rw[F]at this;have Q:x=k:=by
      have h9:∀(n:Nat) (j:List Nat) (x k:Nat),(j++[x])++gt k=gt n->x=k:=by
       intro n;induction n with
       |zero=>simp_all[gt]
       |succ n ih=>
        intro j x k h;rw[i_]at h;cases j with
        |nil=>simp at h;have:=congrArg List.length h.2;grind[gt]
        |cons a j=>grind
      exact h9 N j x k this
     rw[i_,<-Q];rw[<-Q]at this;simpa using this
    have Z:k+1<=N:=by have:=congrArg List.length P;simp[gt]at this;omega
    have ze:x=k:=by
     have h1:=q;rw[F]at h1;have g:j++(x::gt k)=j++(k::gt k):=by rw[i_]at P;rw[P,<-h1];simp
     have:=List.append_cancel_left g;injection this
    rw[L.out,rj id b off N (k+1) j P Z W];show(if b k=id then off k else sZ id b off k)=off x;rw[<-ze,if_pos V]
   have C:=X.kept (grownBy_putObj' d D (.deferred none)) rd;have E:=C.cell;gi_wp2;refine⟨rn,.inl ⟨_,_,rfl,run_takeDeferred z,?_⟩⟩;exact⟨Iq (off x),by simp[results,Tryz.results90,go_sem,E],by rw[t.out],by rw[hS];exact m.trans (belowK_b (w:=U) dg d D _ _ dg z rfl rfl)⟩
end
theorem JC(sp:Option Addr)(c v:Nat)(a off:Nat->Int)(id:Int)(U:World)(hsc:jB U sp c a off)(u:c<=4611686018427387904):
 Cw 156 #[.slice sp c v,Iq id] U λe w'=>e=Rw (Iq (fi id a off c))/\w'=U:=by
 have p:=qH<|hsc;clear hsc;go_enter func156,ntmps156;go_wp2;go_loop[5,6] (λo i=>∃j:Nat,j<=c/\i=Iq (j:Int)/\o=Iq (fi id a off j)) (λ_ i=>c-(intOf i).toNat);case atStart=>grind[fi,sZ]
 case round=>
  obtain⟨j,w,rfl,rfl⟩:=hrel;by_cases l:j<c
  ·have h:(j:Int)<(c:Int):=dg
   obtain⟨b,o,rfl,_,m⟩:=p.resolve_left dg;obtain⟨r,c1⟩:=m j l;obtain⟨x,n⟩:=ad (a j);obtain⟨y,hy⟩:=ad (off j);have d:Hid (fi id a off (j+1)=if id=0 then 0 else if x=id then y else fi id a off j):=by
    show _=_;unfold fi;by_cases q:id=0;·omega
    ·grind[sZ]
   have HZ:Hid (id=0->fi id a off j=0):=λq=>by grind[fi]
   rw[n]at r;rw[hy]at c1;generalize fi id a off j=z at d HZ;clear m n hy;by_cases f:id=0
   ·have s:(id !=0)=false:=by rw[f];rfl
    rw[if_pos f]at d;have k:=qH<|HZ f;clear f HZ;go_wp2;go_round;case rel=>exact⟨j+1,dg,by go_num,by rw[d.out,k.out]⟩
    case measure=>simp[intOf];omega
   ·have s:(id !=0)=true:=by simpa using f
    rw[if_neg f]at d;by_cases g:x=id
    ·have t:(x==id)=true:=by simpa using g
     rw[if_pos g]at d;clear f g HZ;go_wp2;go_round;case rel=>exact⟨j+1,dg,by go_num,by rw[d.out]⟩
     case measure=>simp[intOf];omega
    ·have t:(x==id)=false:=by simpa using g
     rw[if_neg g]at d;clear f g HZ;go_wp2;go_round;case rel=>exact⟨j+1,dg,by go_num,by rw[d.out]⟩
     case measure=>simp[intOf];omega
  ·have h:¬(j:Int)<(c:Int):=dg
   obtain rfl:j=c:=dg;go_wp2;go_ret;simp_all
