import Derived.Test.YtehgehanbnkdiaaGreatDoorQ00
import Derived.RangeFuncNested
import Derived.RangeFuncBound
import Derived.Shelf.Abstract
import Derived.Shelf.RegionOpen
import Derived.WalkKit
import Derived.OwnWalkIn
import Derived.LoopNIn
import Derived.LoopIn
import Derived.Sort.CutIn
import Derived.Test.YtehgehanbnkdiaaGreatDoorQ35
import Derived.Test.YtehgehanbnkdiaaGreatDoorQ01
set_option linter.all false
set_option maxRecDepth 100000
set_option maxHeartbeats 16000000
namespace Go.Proofs.YtehgehanbnkdiaaGreatDoor
open Go.RowKit Go.Proofs.Tryz
section
open Go.Shelf
attribute[local go_sem] Oper.semAt_some
def gx(Bw:Nat)(W W':AT):Prop:=(∀(k:Nat) (c:Array Fd) (fz:Nat×Nat),W.heap[k]?=some (.cells c 337 fz)->W'.heap[k]?=some (.cells c 337 fz))/\W'.heap[Bw]?=W.heap[Bw]?
theorem gx.trans{a}{A B C}(h:gx a A B)(k:gx a B C):gx a A C:=⟨λi c b e=>k.1 i c b (h.1 i c b e),k.2.trans h.2⟩
theorem keepL_row{f}{W c}(h:gx f W c){B n}{v}{e}(d:W.ownsRow B 337 2 v n e):c.ownsRow B 337 2 v n e:=by refine⟨d.1,d.2.imp id ?_⟩;rintro⟨g,b,a,i,j,k,l⟩;exact⟨g,b,a,i,j,h.1 g a _ k,l⟩
theorem iO{W a}(h:Bq W a):W.grownBy a none:=⟨h.os,h.tape,h.output,h.size,λk b _=>h.block k b⟩
theorem vR{w}{B}{v}{l}(h:w.ownsRow B 337 2 v l.length (dh l)):kX w v l:=(ux h).clsC
theorem yF{w w'}{B n}{e}{v}{d}(h:w.ownsRow B e 2 v n d)(k:Bq w w'):w'.ownsRow B e 2 v n d:=by refine⟨h.1,h.2.imp id ?_⟩;rintro⟨g,a,b,f,i,c,j⟩;exact⟨g,a,b,f,i,(k.block g (aj.1 c).1).trans c,j⟩
theorem Fe{w}{b off c a n}{l:List (List UInt8×Int)}(m:a+n<=l.length)(d:l.length<=c)(g:c<=maxLen)(h:b<w.heap.size)(i:∀j (k:j<l.length),w.cell? (aq b (off+j*2))=some (.string ⟨(l[j]).1.toArray⟩)/\w.cell? (aq b (off+j*2+1))=some (Iq (l[j]).2)):
 kX w (.slice (if c=a then some (aq b off)else some (aq b (off+a*2))) n (c-a)) ((l.drop a).take n):=by
 have f:((l.drop a).take n).length=n:=by rw[cF,de];omega
 refine⟨_,_,by rw[f],by rw[f];omega,dg,?_⟩;by_cases e:c=a;·grind
 ·right;rw[if_neg e];grind
def QH(x:Ln):Array Fd:=#[.agg #[.string ⟨x.T.toArray⟩,Iq x.W,Iq x.F,Iq x.N,Iq x.E]]
theorem Fu(n:Nat)(hn:3<=n)(k0 H Bs:Nat)(s:BY)(w:Int)(l:List (List UInt8×Int))(hl:aZ (aA s.data.toList)=l)(hs:s.size<=68719476736)(hw0:-9223372036854775808<=w)(zU:w<=9223372036854775807)(J Jx:List Ln->AT->Prop)(W:AT)(hJ:AbidesFrom W.heap.size J)(hY:∀i x W1,J i W1->i.length<l.length+1->YieldAt Fence.wide (n-1) prog k0 (QH x) W1 λe W'=>
      (e=Rw (.bool true)/\J (i++[x]) W'/\gx H W1 W')\/(e=Rw (.bool false)/\Jx (i++[x]) W'))(ht:∀W',Bq W W'->aY W')(zr:W.heap[H]?=some (.cells #[Iq w] 3 (0,0)))(zI:W.heap[Bs]?=some (.cells #[.string s] 9 (0,0)))(h0:J [] W):
    CallsIn Fence.wide n prog 322 #[.func (.yield k0) #[] #[],Pq H,Pq Bs] W λe W'=>(∃v,e=Rw v)/\
      ((∃ys,ys=bE l w/\J ys W')\/(∃i,True/\Jx i W')):=by
  have zT:s.data.toList.length=s.size:=by rw[ep];rfl
  have hR:=bm s.data.toList;have hC:=bS (aA s.data.toList);have zu:=eI (aA s.data.toList);have zC:=oT (aA s.data.toList);rw[zT]at hR;rw[hl]at hC zu zC;have cw:W.cell? (aq H 0)=some (Iq w):=by simp[World.cell?,zr]
  have cs:W.cell? (aq Bs 0)=some (.string s):=by simp[World.cell?,zI]
  have zj:=qH<|zr;have zE:=qH<|zu;have zZ:=qH<|zC;have HL:=qH<|hl;have HT:=qH<|ht;have HJ:=qH<|hJ;have HY:=qH<|hY;clear zr zI zu zC hl ht hJ hY zT;refine callsIn_of_wp func322 rfl trivial ?_ rfl;simp only[ntmps322,iH,cN,en,Nat.reduceAdd,Nat.reduceSub,nH,nJ,nK,nL,nM,kt];by_cases zS:w<1
  · have HE:Hid (bE l w=[]):=by show _=_;rw[bE,if_pos zS]
    gi_wp2;refine bodyPost_ret (results_none rfl _ _ _) rfl ?_;exact⟨⟨_,rfl⟩,.inl ⟨[],HE.symm,h0⟩⟩
  have HE:Hid (bE l w=dO l w 0):=by show _=_;rw[bE,if_neg zS]
  have L:1<=w:=dg;have G:Hid (Cw 236 #[.string s] W λe w'=>∃v,e=Rw v/\w'.ownsRow W.heap.size 337 2 v l.length (dh l)/\Bq W w'):=by have :=dG s W (HT W (ac _ _)) dg;rw[HL.out]at this;exact this
  gi_wp2_with fail;refine⟨trivial,λ_=>dg,(callsIn_wide.2 G).mono ?_⟩;rintro e w1 ⟨v1,rfl,o1,b1⟩;have zH:=qH<|o1;have j1:=HJ.out [] W w1 none h0 (iO b1) (λr e=>by cases e);have zK:=(aj.1 zj).1;have zi:=qH<|(b1.block H zK).trans zj;have X6:=b1.size;obtain⟨a1,q,rfl,Ss,Xw,Xe⟩:=vR o1;clear G zj cw cs o1 Xe;gi_wp2;gi_loopw[5] (λp wr=>∃(a:Nat) (i:List Ln),p=Iq a/\a<=l.length/\Hid (i++dO l w a=dO l w 0)/\Hid (wr.ownsRow W.heap.size 337 2 (.slice a1 l.length q) l.length (dh l))/\Hid (wr.heap[H]?=some (.cells #[Iq w] 3 (0,0)))/\J i wr) (λp _=>l.length-(intOf p).toNat);case atStart=>exact⟨0,[],rfl,aP _,rfl,zH,zi,j1⟩
  case round=>
    obtain⟨a,i,rfl,ha,A,zg,zv,zM⟩:=hrel;have cw:wr.cell? (aq H 0)=some (Iq w):=by have :=zv.out;simp[World.cell?,this]
    have U:=(aj.1 zv).1;clear j1 zH zi b1;have Xa:(l=[]/\a1=none/\q=0)\/∃b,a1=some (aq b 0):=by
      rcases zg.2 with⟨S,e2⟩|⟨g,cp,AH,S,_⟩;·grind
      ·grind
    have WS:(a:Int)<=(l.length:Int):=dg;have _k:(l.length:Int)<=(q:Int):=dg;rcases Xa with⟨S,rfl,rfl⟩|⟨b,rfl⟩
    · have SI:prog.follows .mixedOrders=true:=pt
      have Xm:l.length=0:=by rw[S];rfl
      obtain rfl:a=0:=dg;have zt:dZ l w 0=⟨[],0,0,0,3⟩:=by
        rw[S];have K:¬w<0:=dg;simp[dZ,aQ,da,aF,ak,K]
      have I:=qH<|zt;have HF:Hid (bE l w=i++[dZ l w 0]):=by show _=_;rw[HE.out,<-A.out,kI (aP _) (by rw[zt])]
      have zB:i.length<l.length+1:=by have :=congrArg List.length A;have h2:=(eS l w 0 (aP _)).1;rw[aI]at this;omega
      have Y:∀w',kX w' (.slice none 0 0) []:=λw'=>⟨none,0,rfl,ad _,aP _,.inl rfl⟩;have M:Hid (Cw 323 #[.slice none 0 0,Iq w] wr.drew λe w'=>e=Rw (.tuple #[Iq 0,Iq 0,Iq 3])/\Bq wr w'):=by refine(jO [] _ w wr.drew (Y _) At At L zU).mono ?_;rintro e m ⟨rfl,O⟩;exact⟨by simp[aQ,da],((ac wr.heap.size wr).drew).trans O⟩
      have F:Hid (∀w',Cw 324 #[.slice none 0 0,Iq w] w' λe m=>e=Rw (.agg #[.string ⟨#[]⟩,Iq 0,Iq 0,Iq 0,Iq 0])/\Bq w' m):=by
        intro w';refine(pG [] _ w w' (Y w').cls At At (by simp[aF]) L (λh=>by grind[ak])).mono ?_;rintro e m ⟨rfl,O⟩;refine⟨?_,O⟩;have K:¬w<0:=dg
        simp[m_,GQ,aF,ak,K]
      rw[Xm];clear zt Y;gi_wp2_with fail;gi_cut[6,7,8]from 14 (λx y z wx=>x=Iq 0/\y=Iq 0/\z=Iq 3/\Bq wr wx);case first=>
        gi_region_with_o(refine⟨trivial,λ_=>dg,(callsIn_wide.2 M).mono ?_⟩;rintro e C ⟨rfl,P⟩);all_goals(gi_wp2_with fail)
        all_goals(gi_meet)
        grind
      case rest=>
        obtain⟨rfl,rfl,rfl,bx⟩:=hcut;have o:=bx.size;have zq:=(bx.cell (p:=(aq H 0)) U).trans cw;have zJ:H<wc.heap.size:=dg;have zL:¬H=wc.heap.size:=dg;clear cw M;gi_wp2_with fail;gi_cut[9]from 14 (λp wx=>∃B,p=Pq B/\wr.heap.size<=B/\wx.heap[B]?=some (.cells #[.string ⟨#[]⟩,Iq 0,Iq 0,Iq 0,Iq 0] 341 (0,0))/\Bq wr wx);case first=>
          have D:Hid (∀w',(w'=wc.drew\/w'=(wc.alloc (.cells #[.string ⟨#[]⟩,Iq 0,Iq 0,Iq 0,Iq 0] 341)).drew)->Cw 324 #[.slice none 0 0,Iq w] w' λe m=>e=Rw (.agg #[.string ⟨#[]⟩,Iq 0,Iq 0,Iq 0,Iq 0])/\Bq wr m/\
              (w'=(wc.alloc (.cells #[.string ⟨#[]⟩,Iq 0,Iq 0,Iq 0,Iq 0] 341)).drew->wc.heap.size<m.heap.size/\m.heap[wc.heap.size]?=some (.cells #[.string ⟨#[]⟩,Iq 0,Iq 0,Iq 0,Iq 0] 341 (0,0)))):=by
            intro w' zD;have t:Bq wr w':=by
              rcases zD with rfl|rfl;·exact bx.drew
              ·exact(bx.alloc o _).drew
            refine(F w').mono ?_;rintro e m ⟨rfl,O⟩;refine⟨rfl,t.trans (O.mono t.size),?_⟩;rintro rfl;have u:wc.heap.size<(wc.alloc (.cells #[.string ⟨#[]⟩,Iq 0,Iq 0,Iq 0,Iq 0] 341)).drew.heap.size:=by show wc.heap.size<(wc.alloc _).heap.size;rw[ai];omega
            exact⟨zz006 u O.size,(O.block _ u).trans (heap_alloc_new wc _)⟩
          have zl:Hid (Cw 324 #[.slice none 0 0,Iq w] wc.drew λe m=>e=Rw (.agg #[.string ⟨#[]⟩,Iq 0,Iq 0,Iq 0,Iq 0])/\Bq wr m):=by refine(D _ (Or.inl rfl)).mono ?_;rintro e m ⟨K,h2,_⟩;exact⟨K,h2⟩
          have zm:Hid (Cw 324 #[.slice none 0 0,Iq w] (wc.alloc (.cells #[.string ⟨#[]⟩,Iq 0,Iq 0,Iq 0,Iq 0] 341)).drew λe m=>e=Rw (.agg #[.string ⟨#[]⟩,Iq 0,Iq 0,Iq 0,Iq 0])/\Bq wr m/\wc.heap.size<m.heap.size/\m.heap[wc.heap.size]?=some (.cells #[.string ⟨#[]⟩,Iq 0,Iq 0,Iq 0,Iq 0] 341 (0,0))):=by refine(D _ (Or.inr rfl)).mono ?_;rintro e m ⟨K,h2,h3⟩;exact⟨K,h2,(h3 rfl).1,(h3 rfl).2⟩
          clear F D;gi_region_with_o(refine⟨trivial,λ_=>dg,?_⟩;(first|(refine(callsIn_wide.2 zl).mono ?_;rintro e C ⟨rfl,P⟩)|(refine(callsIn_wide.2 zm).mono ?_;rintro e C ⟨rfl,P,Tc,k⟩;have q0:C.cell? (aq wc.heap.size 0)=some (.string ⟨#[]⟩):=(by simp[World.cell?,k]);have q1:C.cell? (aq wc.heap.size 1)=some (Iq 0):=(by simp[World.cell?,k]);have q2:C.cell? (aq wc.heap.size 2)=some (Iq 0):=(by simp[World.cell?,k]);have q3:C.cell? (aq wc.heap.size 3)=some (Iq 0):=(by simp[World.cell?,k]);have q4:C.cell? (aq wc.heap.size 4)=some (Iq 0):=(by simp[World.cell?,k]);have fr:∀j,C.frozen? (aq wc.heap.size j)=false:=(λj=>frozen_of_row _ _ _ _ _ k);have zo:=qH<|k;clear k)));all_goals(gi_wp2_with fail)
          all_goals(gi_meet)
          all_goals(first
            |exact⟨_,rfl,P.size,heap_alloc_new _ _,P.alloc P.size _⟩
            |exact⟨_,rfl,o,LK zo,((((P.setCell (p:=(aq wc.heap.size 0)) o _).setCell (p:=(aq wc.heap.size 1)) o _).setCell (p:=(aq wc.heap.size 2)) o _).setCell (p:=(aq wc.heap.size 3)) o _).setCell (p:=(aq wc.heap.size 4)) o _⟩)
        case rest=>
          obtain⟨B,rfl,hB,f,R⟩:=hcut;have Yd:=R.size;have q0:wc.cell? (aq B 0)=some (.string ⟨#[]⟩):=by simp[World.cell?,f]
          have q1:wc.cell? (aq B 1)=some (Iq 0):=by simp[World.cell?,f]
          have q2:wc.cell? (aq B 2)=some (Iq 0):=by simp[World.cell?,f]
          have q3:wc.cell? (aq B 3)=some (Iq 0):=by simp[World.cell?,f]
          have q4:wc.cell? (aq B 4)=some (Iq 0):=by simp[World.cell?,f]
          have fr:∀j,wc.frozen? (aq B j)=false:=λj=>frozen_of_row _ _ _ _ _ f;have bz:Bq wr ((wc.setCell (aq B 2) (Iq 0)).setCell (aq B 4) (Iq 3)):=(R.setCell (p:=(aq B 2)) hB _).setCell (p:=(aq B 4)) hB _;have jz:=HJ i wr _ none zM (iO bz) (λr e=>by cases e);obtain⟨fn,zX,assign,body,hy,hR⟩:=HY i (dZ l w 0) _ jz zB;rw[I.out]at hy;change(Instr.yield k0 #[.agg #[.string ⟨#[]⟩,Iq 0,Iq 0,Iq 0,Iq 3]]).run prog _=_ at hy;have HR:=qH<|hR;clear f zq hR jz;gi_wp2;refine⟨λ_=>dg,HR.mono ?_⟩;clear HR hy;rintro e W3 (⟨rfl,zh,zy⟩|⟨rfl,X⟩);·gi_wp2;refine bodyPost_ret (results_none rfl _ _ _) rfl ?_;exact⟨⟨_,rfl⟩,.inl ⟨_,HF.symm,zh⟩⟩
          ·gi_wp2;refine bodyPost_ret (results_none rfl _ _ _) rfl ?_;exact⟨⟨_,rfl⟩,.inr ⟨_,trivial,X⟩⟩
    · have SI:prog.follows .mixedOrders=true:=pt
      have zP:=rC (l.drop a) w;rw[de]at zP;have HX:Hid (dO l w a=if(dZ l w a).E=3 then[dZ l w a]else dZ l w a::dO l w (Eg l w a)):=by
        show _=_;by_cases h:(dZ l w a).E=3;·grind[kI]
        ·grind[na]
      have zY:=qH<|nxt_lt l w a;have zF:Hid (Eg l w a=a+(aQ (l.drop a) w).n+(aQ (l.drop a) w).d):=rfl;have _j:=(eS l w a ha).1;have Xn:=(eS l w 0 (aP _)).2;have hcl:∀w',Bq wr w'->∀n,a+n<=l.length->kX w' (.slice (if q=a then some (aq b 0)else some (aq b (a*2))) n (q-a)) ((l.drop a).take n):=by
        intro w' hb n hn;obtain⟨a',cap',S,_,_,hh⟩:=(vR zg).below hb;cases S;rcases hh with hh|⟨b',YT,e2,Rm,Uf⟩
        · subst hh;have e0:n=0:=by simp at hn;omega
          subst e0;exact⟨_,_,rfl,At,dg,.inl At⟩
        ·cases e2;grind[Fe]
      have zk:=qH<|hcl;have hFL:Cw 323 #[.slice (if q=a then some (aq b 0)else some (aq b (a*2))) (l.length-a) (q-a),Iq w] wr.drew λe w'=>e=Rw (.tuple #[Iq (aQ (l.drop a) w).n,Iq (aQ (l.drop a) w).d,Iq (aQ (l.drop a) w).e])/\Bq wr w':=by have K:=hcl wr.drew ((ac _ _).drew) (l.length-a) dg;rw[gT rn]at K;refine(jO (l.drop a) _ w wr.drew K (λc hc=>zE c (ku hc)) rn L zU).mono ?_;rintro e m ⟨rfl,O⟩;exact⟨rfl,((ac wr.heap.size wr).drew).trans O⟩
      have F:Hid (∀w' v,tY w' v ((l.drop a).take (aQ (l.drop a) w).n)->Cw 324 #[v,Iq w] w' λe m=>e=Rw (m_ ((l.drop a).take (aQ (l.drop a) w).n) w)/\Bq w' m):=by
        intro w' v hv;have zN:∀c∈(l.drop a).take (aQ (l.drop a) w).n,0<=c.2/\c.2<=2:=λc hc=>zE c (ku (nF hc));have _i:((l.drop a).take (aQ (l.drop a) w).n).length<=l.length:=by rw[cF,de];omega
        have Uq:=mj _ (λc hc=>zZ c (ku (nF hc)):∀c∈(l.drop a).take (aQ (l.drop a) w).n,c.1.length<=20);have X7:=(cM _ zN ((l.drop a).take (aQ (l.drop a) w).n).length).2;rw[kq]at X7;exact pG _ v w w' hv zN dg dg L (λ_=>dg)
      have zn:Hid (∃(T:zzf) (V:Int) (N:Nat),m_ ((l.drop a).take (aQ (l.drop a) w).n) w=.agg #[.string ⟨T.toArray⟩,Iq V,Iq 0,Iq N,Iq 0]/\dZ l w a=⟨T,V,a,N,(aQ (l.drop a) w).e⟩):=by
        by_cases zV:w<ak ((l.drop a).take (aQ (l.drop a) w).n);·exact⟨List.replicate w.toNat 32,w,1,by rw[m_,if_pos zV];rfl,by grind[dZ]⟩
        ·exact⟨aF ((l.drop a).take (aQ (l.drop a) w).n),ak ((l.drop a).take (aQ (l.drop a) w).n),((l.drop a).take (aQ (l.drop a) w).n).length,by rw[m_,if_neg zV];rfl,by grind[dZ]⟩
      obtain⟨Q,Z⟩:=af ((aQ (l.drop a) w).n);obtain⟨d1,zw⟩:=af ((aQ (l.drop a) w).d);obtain⟨S,zx⟩:=af ((aQ (l.drop a) w).e);rw[Z,zw,zx]at hFL;rw[Z]at F;rw[Z,zx]at zn;rw[Z,zw]at zF zP;have M:=qH<|hFL;obtain⟨pp,XT⟩:=af (if q=a then some ((aq b 0):Addr)else some (aq b (a*2)));rw[XT]at M zk;clear hFL hcl Z zw zx;gi_wp2_with fail;gi_cut[6,7,8]from 14 (λx y z wx=>x=Iq Q/\y=Iq d1/\z=Iq S/\Bq wr wx);case first=>
        gi_region_with_o(refine⟨trivial,λ_=>dg,(callsIn_wide.2 M).mono ?_⟩;rintro e C ⟨rfl,P⟩);all_goals(gi_wp2_with fail)
        all_goals(gi_meet)
        grind
      case rest=>
        obtain⟨rfl,rfl,rfl,bx⟩:=hcut;have o:=bx.size;have zq:=(bx.cell (p:=(aq H 0)) U).trans cw;have zJ:H<wc.heap.size:=dg;have zL:¬H=wc.heap.size:=dg;clear cw M;obtain⟨T,V,N,zR,zQ⟩:=zn.out;rw[zR]at F;have I:=qH<|zQ;have _E:IntKind.i64.wrap ((a:Int)+(Q:Int))=(a:Int)+(Q:Int):=by exact IntWalk.i64_in _ ⟨dg,dg⟩
        have SS:(0:Int)<=(a:Int)+(Q:Int):=dg;have UC:(a:Int)+(Q:Int)<=(q:Int):=dg;have _t:((a:Int)+(Q:Int)).toNat=a+Q:=dg;clear zn zR zQ;gi_wp2_with fail;gi_cut[9]from 14 (λp wx=>∃B,p=Pq B/\wr.heap.size<=B/\wx.heap[B]?=some (.cells #[.string ⟨T.toArray⟩,Iq V,Iq 0,Iq N,Iq 0] 341 (0,0))/\Bq wr wx);case first=>
          have D:Hid (∀w',(w'=wc.drew\/w'=(wc.alloc (.cells #[.string ⟨#[]⟩,Iq 0,Iq 0,Iq 0,Iq 0] 341)).drew)->Cw 324 #[.slice pp Q (q-a),Iq w] w' λe m=>e=Rw (.agg #[.string ⟨T.toArray⟩,Iq V,Iq 0,Iq N,Iq 0])/\Bq wr m/\
              (w'=(wc.alloc (.cells #[.string ⟨#[]⟩,Iq 0,Iq 0,Iq 0,Iq 0] 341)).drew->wc.heap.size<m.heap.size/\m.heap[wc.heap.size]?=some (.cells #[.string ⟨#[]⟩,Iq 0,Iq 0,Iq 0,Iq 0] 341 (0,0)))):=by
            intro w' zD;have t:Bq wr w':=by
              rcases zD with rfl|rfl;·exact bx.drew
              ·exact(bx.alloc o _).drew
            refine(F w' _ (zk w' t Q dg).cls).mono ?_;rintro e m ⟨rfl,O⟩;refine⟨rfl,t.trans (O.mono t.size),?_⟩;rintro rfl;have u:wc.heap.size<(wc.alloc (.cells #[.string ⟨#[]⟩,Iq 0,Iq 0,Iq 0,Iq 0] 341)).drew.heap.size:=by show wc.heap.size<(wc.alloc _).heap.size;rw[ai];omega
            exact⟨zz006 u O.size,(O.block _ u).trans (heap_alloc_new wc _)⟩
          have zl:Hid (Cw 324 #[.slice pp Q (q-a),Iq w] wc.drew λe m=>e=Rw (.agg #[.string ⟨T.toArray⟩,Iq V,Iq 0,Iq N,Iq 0])/\Bq wr m):=by refine(D _ (Or.inl rfl)).mono ?_;rintro e m ⟨K,h2,_⟩;exact⟨K,h2⟩
          have zm:Hid (Cw 324 #[.slice pp Q (q-a),Iq w] (wc.alloc (.cells #[.string ⟨#[]⟩,Iq 0,Iq 0,Iq 0,Iq 0] 341)).drew λe m=>e=Rw (.agg #[.string ⟨T.toArray⟩,Iq V,Iq 0,Iq N,Iq 0])/\Bq wr m/\wc.heap.size<m.heap.size/\m.heap[wc.heap.size]?=some (.cells #[.string ⟨#[]⟩,Iq 0,Iq 0,Iq 0,Iq 0] 341 (0,0))):=by refine(D _ (Or.inr rfl)).mono ?_;rintro e m ⟨K,h2,h3⟩;exact⟨K,h2,(h3 rfl).1,(h3 rfl).2⟩
          clear F zk D;gi_region_with_o(refine⟨trivial,λ_=>dg,?_⟩;(first|(refine(callsIn_wide.2 zl).mono ?_;rintro e C ⟨rfl,P⟩)|(refine(callsIn_wide.2 zm).mono ?_;rintro e C ⟨rfl,P,Tc,k⟩;have q0:C.cell? (aq wc.heap.size 0)=some (.string ⟨#[]⟩):=(by simp[World.cell?,k]);have q1:C.cell? (aq wc.heap.size 1)=some (Iq 0):=(by simp[World.cell?,k]);have q2:C.cell? (aq wc.heap.size 2)=some (Iq 0):=(by simp[World.cell?,k]);have q3:C.cell? (aq wc.heap.size 3)=some (Iq 0):=(by simp[World.cell?,k]);have q4:C.cell? (aq wc.heap.size 4)=some (Iq 0):=(by simp[World.cell?,k]);have fr:∀j,C.frozen? (aq wc.heap.size j)=false:=(λj=>frozen_of_row _ _ _ _ _ k);have zo:=qH<|k;clear k)));all_goals(gi_wp2_with fail)
          all_goals(gi_meet)
          all_goals(first
            |exact⟨_,rfl,P.size,heap_alloc_new _ _,P.alloc P.size _⟩
            |exact⟨_,rfl,o,LK zo,((((P.setCell (p:=(aq wc.heap.size 0)) o _).setCell (p:=(aq wc.heap.size 1)) o _).setCell (p:=(aq wc.heap.size 2)) o _).setCell (p:=(aq wc.heap.size 3)) o _).setCell (p:=(aq wc.heap.size 4)) o _⟩)
        case rest=>
          obtain⟨B,rfl,hB,f,R⟩:=hcut;have Yd:=R.size;have q0:wc.cell? (aq B 0)=some (.string ⟨T.toArray⟩):=by simp[World.cell?,f]
          have q1:wc.cell? (aq B 1)=some (Iq V):=by simp[World.cell?,f]
          have q2:wc.cell? (aq B 2)=some (Iq 0):=by simp[World.cell?,f]
          have q3:wc.cell? (aq B 3)=some (Iq N):=by simp[World.cell?,f]
          have q4:wc.cell? (aq B 4)=some (Iq 0):=by simp[World.cell?,f]
          have fr:∀j,wc.frozen? (aq B j)=false:=λj=>frozen_of_row _ _ _ _ _ f;have bz:Bq wr ((wc.setCell (aq B 2) (Iq a)).setCell (aq B 4) (Iq S)):=(R.setCell (p:=(aq B 2)) hB _).setCell (p:=(aq B 4)) hB _;have jz:=HJ i wr _ none zM (iO bz) (λr e=>by cases e);have zB:i.length<l.length+1:=by have :=congrArg List.length A;rw[aI]at this;omega
          obtain⟨fn,zX,assign,body,hy,hR⟩:=HY i (dZ l w a) _ jz zB;rw[I.out]at hy;dsimp only[QH]at hy;have HR:=qH<|hR;clear f zq hR jz;gi_wp2;refine⟨λ_=>dg,HR.mono ?_⟩;clear HR hy;rintro e W3 (⟨rfl,zh,zy⟩|⟨rfl,X⟩)
          · have zA:=qH<|keepL_row zy (yF zg bz);have zO:=qH<|(zy.2.trans (bz.block H U)).trans zv;have hE:(dZ l w a).E=S:=by rw[I.out]
            by_cases h3:S=3
            · have HF:Hid (bE l w=i++[dZ l w a]):=by show _=_;rw[HE.out,<-A.out,HX.out,if_pos (by rw[hE,h3])]
              clear hE;subst h3;gi_wp2;refine bodyPost_ret (results_none rfl _ _ _) rfl ?_;exact⟨⟨_,rfl⟩,.inl ⟨_,HF.symm,zh⟩⟩
            · have ze:(dZ l w a).E≠3:=by rw[hE];exact h3
              have XM:=zY ze;have HF:Hid ((i++[dZ l w a])++dO l w (Eg l w a)=dO l w 0):=by show _=_;rw[<-A.out,HX.out,if_neg ze];simp
              have hnx':=zF.out;have zG:=qH<|hnx';rw[zG.out]at HF XM;clear hE ze hnx';gi_wp2;go_roundw;case rel=>exact⟨a+Q+d1,i++[dZ l w a],by go_num,dg,HF,zA,zO,zh⟩
              case measure=>simp[intOf];omega
          ·gi_wp2;refine bodyPost_ret (results_none rfl _ _ _) rfl ?_;exact⟨⟨_,rfl⟩,.inr ⟨_,trivial,X⟩⟩
attribute[local go_sem] Oper.semAt_some
theorem rK{a B}(m:a<B)W l o d(n:B<=l)(h:W.heap[l]?=some o)(g:o.isCells=false)(_:o.isWalk=false):gx a W (W.putObj l d):=by have b:=grownBy_putObj' W l d;have i:=(aj.1 h).1;refine⟨λk c j e=>?_,b.block a dg (λe=>rn)⟩;refine(b.block k (aj.1 e).1 (λf=>?_)).trans e;cases f;rw[h]at e;cases e;cases g
theorem oY n(q:3<=n)a d s w l(p:aZ (aA s.data.toList)=l)(r:s.size<=68719476736)(h:-9223372036854775808<=w)(i:w<=9223372036854775807)e(t:aY e)(c:e.heap[a]?=some (.cells #[Iq w] 3 (0,0)))(b:e.heap[d]?=some (.cells #[.string s] 9 (0,0))):
 SeqStopsK Fence.wide n prog 322 #[Pq a,Pq d] QH (gx a) (λv=>v=bE l w) (λ_=>True) (l.length+1) e:=λu J j W f m _ o k=>
 Fu n q u a d s w l p r h i J j W m o (λx g=>(t.below f).below g)
  ((f.block a (aj.1 c).1).trans c) ((f.block d (aj.1 b).1).trans b) k
theorem uG(s:BY)(w:Int)(W:AT):
 Cw 287 #[.string s,Iq w] W λe w'=>e=Rw (.func (.func 322) #[] #[Pq (W.heap.size+1),Pq W.heap.size])/\w'=(W.alloc (.cells #[.string s] 9)).alloc (.cells #[Iq w] 3):=by go_enter func287,ntmps287;go_wp2;go_ret;simp_all
theorem GF{W}{B a}{v v' x}(d:a≠B)(h:Boxed W B 3 v)(g:Boxed W a 3 x):gx a W (W.setCell (aq B 0) v')/\Boxed (W.setCell (aq B 0) v') a 3 x:=by
 have f:=Boxed.other g d v';refine⟨⟨λj c i e=>?_,f.trans g.symm⟩,f⟩;have b:j≠B:=by rintro rfl;rw[show W.heap[j]?=_ from h]at e;cases e
 rw[heap_setCell_other _ _ _ _ b];exact e
theorem CM(s:BY)(w:Int)(W:AT)(R:aY W)(y:s.size<=68719476736)(B:-9223372036854775808<=w)(C:w<=9223372036854775807):
 Cw 333 #[.string s,Iq w] W λe d=>e=Rw (Iq (bE (aZ (aA s.data.toList)) w).length)/\Bq W d:=by
 have z:s.data.toList.length=s.size:=by rw[ep];rfl
 have M:=bm s.data.toList;have L:=bS (aA s.data.toList);rw[z]at M;obtain⟨l,G⟩:=af (aZ (aA s.data.toList));rw[G]at L⊢;refine(callsIn_wide (n:=6)).1 ?_;refine callsIn_of_wp_marks func333 rfl trivial ?_ rfl;simp only[ntmps333,iH,cN,en,Nat.reduceAdd,Nat.reduceSub,nH,nJ,nK,nL,nM,kt];gi_wp2_with fail;refine⟨trivial,(callsIn_wide.2 (uG s w _)).mono ?_⟩;rintro e w' ⟨rfl,rfl⟩;have I:=Boxed.new W 3 (Iq 0);obtain⟨f,b⟩:=af (((W.alloc (.cells #[Iq 0] 3)).alloc (.cells #[.string s] 9)).alloc (.cells #[Iq w] 3));have t:Boxed f W.heap.size 3 (Iq 0):=by rw[<-b];exact(I.alloc _).alloc _
 have u:Boxed f (W.heap.size+1) 9 (.string s):=by rw[<-b];have:=Boxed.new (W.alloc (.cells #[Iq 0] 3)) 9 (.string s);rw[ai]at this;exact this.alloc _
 have i:Boxed f (W.heap.size+2) 3 (Iq w):=by rw[<-b];have:=Boxed.new ((W.alloc (.cells #[Iq 0] 3)).alloc (.cells #[.string s] 9)) 3 (Iq w);rw[ai,ai]at this;exact this
 have j:Bq W f:=by rw[<-b];exact(((ac _ W).alloc (ad _) _).alloc At _).alloc (by simp;omega) _
 have Q:f.heap.size=W.heap.size+3:=by rw[<-b];simp
 have A:=R.below j;rw[ai,b];gi_wp2;refine wpIn_rangeFunc_ownG rfl dg (gf:=322) (lb:=#[Pq (W.heap.size+2),Pq (W.heap.size+1)]) rfl trivial (enters_of func322 pt rfl)
  (oY 5 dg (W.heap.size+2) (W.heap.size+1) s w l G y B C f A i u) gx.trans (rK dg) (ac _ _) (λ_=>rfl)
  (λa d=>(Boxed d W.heap.size 3 (Iq a.length)/\Boxed d (W.heap.size+2) 3 (Iq w))/\Bq W d)
  (λ_ _ _=>False)
  (OwnFrom.and (OwnFrom.and (Own.from (boxed_own W.heap.size 3 (λa:List Ln=>Iq (a.length:Int))) _) (Own.from (boxed_own _ _ _) _)) (ownFrom_below (ad _) dg))
  (λ_ _ _ _ _ y _ _=>y)
  ⟨⟨t,i⟩,j⟩
  (λx=>{tmps:=#[.string s,Iq w,undef,undef,Iq 0,Pq W.heap.size,.string s,Iq w,.func (.func 322) #[] #[Pq (W.heap.size+2),Pq (W.heap.size+1)],.agg (cC x).toArray,undef,undef,undef],defers:=[]})
  ?assign ?body ?done ?stop;case assign=>rintro S ⟨T,V,F,N,E⟩ d K k;dsimp only[QH,cC]at k⊢;gi_wp2;simpa using k
 case body=>rintro S a x d ⟨⟨g,m⟩,r⟩ P;have O:=g.cell;have Y:=g.frozen;have J:=r.size;gi_wp2;obtain⟨v,o⟩:=GF (v':=Iq ((a.length:Int)+1)) dg g m;exact⟨(KeepsOthers.setCell _ _ _).from _,v,⟨by have:=g.set (Iq ((a.length:Int)+1));grind,o⟩,r.setCell (p:=(aq W.heap.size 0)) (ad _) _⟩
 case done=>rintro D ys d X rfl ⟨⟨g,m⟩,r⟩ k;have O:=g.cell;gi_wp2;refine⟨At,.inl ⟨_,_,rfl,run_takeDeferred k,?_⟩⟩;exact⟨_,results_tmp rfl _ _ _,rfl,r.trans (belowK_b (w:=W) (ad _) d D _ _ dg k rfl rfl)⟩
 case stop=>rintro D c a d _ _ h _;exact h.elim
attribute[local go_sem] Oper.semAt_some
theorem FS:(prog.info? 341).map (λi=>(i.zero,i.size,i.bytes))=some (some (.agg #[.string ⟨#[]⟩,Iq 0,Iq 0,Iq 0,Iq 0]),5,48):=pt
theorem Bk{W:AT}{f k}{v}{i}(h:W.ownsRow f 341 5 v k i){j}{c}{t}{d}(m:W.heap[j]?=some (.cells c t d))(n:t≠341):some j≠v.ownBlock:=by
 rcases h.2 with⟨rfl,_⟩|⟨g,a,b,rfl,_,l,_⟩;·simp[Value.ownBlock]
 ·intro e;obtain rfl:j=g:=by simpa[Value.ownBlock]using e
  grind
theorem GB{W n}{q B g k}{t}{v v' x}{r}{f}(l:t≠337)(d:g≠B)(p:Boxed W B t v)(b:W.ownsRow q 341 5 v k r)(m:Boxed W g 3 x)(a:(W.alloc f).grownBy n v.ownBlock):
 gx g W (n.setCell (aq B 0) v')/\Boxed (n.setCell (aq B 0) v') g 3 x:=by
 have o:=Boxed.other ((m.alloc f).kept a (Bk b m (by decide))) d v';refine⟨⟨λj c s e=>?_,o.trans m.symm⟩,o⟩;have i:=(aj.1 e).1;have h:j≠B:=by rintro rfl;rw[show W.heap[j]?=_ from p]at e;cases e;exact l rfl
 rw[heap_setCell_other _ _ _ _ h];exact(a.block j (by rw[ai];omega) (Bk b e (by decide))).trans ((bB _ _ _ i).trans e)
theorem vj{W}{a}{x}(h:Boxed W a 3 x)o:gx a W (W.alloc o):=
 ⟨λk c b e=>(bB _ _ _ (aj.1 e).1).trans e,bB _ _ _ h.lt⟩
theorem Dw(s:BY)(w:Int)(W:AT)(ht:aY W)(U:s.size<=68719476736)(ze:-9223372036854775808<=w)(zg:w<=9223372036854775807):
 Cw 238 #[.string s,Iq w] W λe d=>∃v,e=Rw v/\d.ownsRow W.heap.size 341 5 v (bE (aZ (aA s.data.toList)) w).length (fL (bE (aZ (aA s.data.toList)) w))/\Bq W d:=by
 have X:s.data.toList.length=s.size:=by rw[ep];rfl
 have hR:=bm s.data.toList;have hC:=bS (aA s.data.toList);rw[X]at hR;obtain⟨l,hl⟩:=af (aZ (aA s.data.toList));rw[hl]at hC⊢;obtain⟨i0,hi,zh,zi,zj⟩:=info_parts FS;refine(callsIn_wide (n:=6)).1 ?_;refine callsIn_of_wp_marks func238 rfl trivial ?_ rfl;simp only[ntmps238,iH,cN,en,Nat.reduceAdd,Nat.reduceSub,nH,nJ,nK,nL,nM,kt];gi_wp2_with fail;refine⟨trivial,(callsIn_wide.2 (uG s w _)).mono ?_⟩;rintro e w' ⟨rfl,rfl⟩;have bO:=Boxed.new W 339 (.slice none 0 0);obtain⟨q,f⟩:=af (((W.alloc (.cells #[.slice none 0 0] 339)).alloc (.cells #[.string s] 9)).alloc (.cells #[Iq w] 3));have J:Boxed q W.heap.size 339 (.slice none 0 0):=by rw[<-f];exact(bO.alloc _).alloc _
 have L:Boxed q (W.heap.size+1) 9 (.string s):=by rw[<-f];have:=Boxed.new (W.alloc (.cells #[.slice none 0 0] 339)) 9 (.string s);rw[ai]at this;exact this.alloc _
 have y:Boxed q (W.heap.size+2) 3 (Iq w):=by rw[<-f];have:=Boxed.new ((W.alloc (.cells #[.slice none 0 0] 339)).alloc (.cells #[.string s] 9)) 3 (Iq w);rw[ai,ai]at this;exact this
 have C:Bq W q:=by rw[<-f];exact(((ac _ W).alloc (ad _) _).alloc At _).alloc (by simp;omega) _
 have zr:q.heap.size=W.heap.size+3:=by rw[<-f];simp
 have Y:=ht.below C;rw[ai,f];gi_wp2;refine wpIn_rangeFunc_ownH rfl dg (gf:=322) (lb:=#[Pq (W.heap.size+2),Pq (W.heap.size+1)]) rfl trivial (enters_of func322 pt rfl)
  (oY 5 dg (W.heap.size+2) (W.heap.size+1) s w l hl U ze zg q Y y L) gx.trans (rK dg) (ac _ _) (λ_=>rfl)
  (λb d=>((∃v,Boxed d W.heap.size 339 v/\d.ownsRow W.heap.size 341 5 v b.length (fL b)/\True)/\Boxed d (W.heap.size+2) 3 (Iq w))/\Bq W d)
  (λ_ _ _=>False)
  (OwnFrom.and (OwnFrom.and (Own.from (holdsRow_own W.heap.size W.heap.size 339 341 5 (λb:List Ln=>b.length) (λb=>fL b) (λ_ _=>True)) _) (Own.from (boxed_own _ _ _) _)) (ownFrom_below (ad _) dg))
  (λ_ _ _ _ _ U _ _=>U)
  ⟨⟨⟨_,J,ga _ _ _ _,trivial⟩,y⟩,C⟩
  (λx a' d=>∃m,d.heap[m]?=some (.cells (cC x).toArray 341 (0,0))/\a'={tmps:=#[.string s,Iq w,undef,undef,.slice none 0 0,Pq W.heap.size,Pq m,.string s,Iq w,.func (.func 322) #[] #[Pq (W.heap.size+2),Pq (W.heap.size+1)],.agg (cC x).toArray,undef,undef,undef,undef,undef],defers:=[]})
  ?hAx ?assign ?body ?done ?stop;case hAx=>rintro x a' _ A B row ⟨m,M,h3⟩ hg hr;refine⟨m,(hg.block m (aj.1 M).1 (λe=>?_)).trans M,h3⟩;obtain⟨_,o,ho,Q⟩:=hr m e.symm;rw[M]at ho;cases ho;cases Q
 case assign=>rintro k0 b ⟨T,V,F,N,E⟩ d K ⟨⟨⟨v,p,a,_⟩,g⟩,k⟩ t;dsimp only[QH,cC]at t⊢;have O:=k.size;gi_wp2;exact t _ _ ((KeepsOthers.alloc _ _).from _) (vj g _) ⟨⟨⟨v,p.alloc _,a.alloc _,trivial⟩,g.alloc _⟩,k.alloc k.size _⟩ ⟨d.heap.size,heap_alloc_new _ _,rfl⟩
 case body=>rintro k0 b x a' d zn ⟨r,hr⟩ ⟨⟨⟨v,p,a,_⟩,g⟩,k⟩ ⟨m,hx,rfl⟩ zo;have Q:=p.cell;obtain⟨x0,x1,x2,x3,x4⟩:=Ct hx;have HX:Hid (d.heap[m]?=some (.cells (cC x).toArray 341 (0,0))):=hx;have O:=k.size;clear hx;gi_wp2_with(gi_at_builtin;refine wpListIn_append_own _ rfl _ _ 339 rfl W.heap.size 341 i0 (.agg #[.string ⟨#[]⟩,Iq 0,Iq 0,Iq 0,Iq 0]) 5 48 underlying339 hi zh zi zj rfl (by decide) _ _ _ rfl (a.alloc _) (aq d.heap.size 0) 1 1 (cC x) rfl rfl (G7 _ _ _) (by intro u hu;simp[cC]at hu;rcases hu with rfl|rfl|rfl|rfl|rfl<;>rfl) (by unfold maxLen;omega) dg (by simp;omega) ?_;intro v' w1 j i _;obtain⟨g',z,rfl⟩:=ownsRow_succ j;obtain⟨H,Z,zq,R,P⟩:=p.appended (by decide) a k.size (ad _) j i;obtain⟨S,G⟩:=GB (v':=Sq g' (b.length+1) z) (by decide) dg p a g i;have zl:=H.cell;have zm:=H.frozen);exact⟨R.from _,S,⟨⟨_,Z,by grind[vu],trivial⟩,G⟩,k.trans P⟩
 case done=>rintro D ys d hD rfl ⟨⟨⟨v,p,a,_⟩,g⟩,k⟩ t;have Q:=p.cell;gi_wp2;refine⟨At,.inl ⟨_,_,rfl,run_takeDeferred t,?_⟩⟩;exact⟨_,results_tmp rfl _ _ _,v,rfl,ownsRow_putObj a _ t rfl,k.trans (belowK_b (w:=W) (ad _) d D _ _ dg t rfl rfl)⟩
 case stop=>rintro D c b d _ _ h _;exact h.elim
attribute[local go_sem] Oper.semAt_some
def gt(id:Int)(eJ off:zzb):Nat->Int
 |0=>0
 |k+1=>if eJ k=id then off k else gt id eJ off k
def gs(id:Int)(eJ off:zzb)(n:Nat):Int:=if id=0 then 0 else gt id eJ off n
def eY(n:Nat):List Nat:=(List.range n).reverse
theorem gK n:eY (n+1)=n::eY n:=by unfold eY;rw[sA,List.reverse_append];rfl
theorem pL id c off:∀  n k   b,b++eY k=eY n->k<=n->(∀i∈b,c i≠id)->gt id c off n=gt id c off k
 |0,k,b,h,l,_=>rn
 |n+1,k,b,h,l,f=>by
  by_cases e:k=n+1;·rw[e]
  ·rw[gK]at h;cases b with
   |nil=>have:=congrArg List.length h;grind[eY]
   |cons a b=>rw[kt]at h;injection h with g j;have d:=f a At;rw[g]at d;have hu:gt id c off (n+1)=gt id c off n:=if_neg d;rw[hu];exact pL id c off n k b j dg (λi hi=>f i (by simp[hi]))
def oi(W:AT)(p:zze)(n:Nat)(eJ off:zzb):Prop:=n=0\/∃b o,p=some (aq b o)/\b<W.heap.size/\∀j,j<n->W.cell? (aq b (o+j*2))=some (Iq (eJ j))/\W.cell? (aq b (o+j*2+1))=some (Iq (off j))
def kY(Bx:Nat)(p:zze)(W W':AT):Prop:=W'.heap[Bx]?=W.heap[Bx]?/\∀a:Addr,p=some a->W'.heap[a.block]?=W.heap[a.block]?
theorem kY.trans{b}{p}{A B C}(h:kY b p A B)(k:kY b p B C):kY b p A C:=⟨k.1.trans h.1,λa e=>(k.2 a e).trans (h.2 a e)⟩
theorem oi.keep{W d}{k}{p}{n}{c off}(h:oi W p n c off)(l:kY k p W d):oi d p n c off:=by
 rcases h with h|⟨b,o,e,m,f⟩;·exact .inl h
 ·have g:d.heap[b]?=W.heap[b]?:=l.2 _ e;refine .inr ⟨b,o,e,?_,λj i=>⟨(aO (a:=(aq b (o+j*2))) g).trans (f j i).1,(aO (a:=(aq b (o+j*2+1))) g).trans (f j i).2⟩⟩;grind
theorem oi.below{W W'}{p}{n}{a off}(h:oi W p n a off)(d:Bq W W'):oi W' p n a off:=by
 rcases h with h|⟨b,o,e,c,f⟩;·exact .inl h
 ·exact .inr ⟨b,o,e,zz006 c d.size,λj g=>⟨(d.cell (p:=(aq b _)) c).trans (f j g).1,(d.cell (p:=(aq b _)) c).trans (f j g).2⟩⟩
def TA(eJ off:zzb)(i:Nat):Array Fd:=#[Iq (i:Int),.agg #[Iq (eJ i),Iq (off i)]]
theorem sU(n:Nat)(X:3<=n)(g N c:Nat)(p:zze)(f off:zzb)(U:N<=4611686018427387904)(t:AT)(P:oi t p N f off)(z:t.heap[g]?=some (.cells #[.slice p N c] 85 (0,0))):
 SeqStopsK Fence.wide n prog 303 #[Pq g] (TA f off) (kY g p) (λQ=>Q=eY N) (λa=>∃k,k<=N/\a++eY k=eY N) N t:=by
 intro Y J R W y T K M h0;have q:=(y.block g (aj.1 z).1).trans z;have G:W.cell? (aq g 0)=some (.slice p N c):=by simp[World.cell?,q]
 have D:Hid (W.heap[g]?=some (.cells #[.slice p N c] 85 (0,0))/\oi W p N f off):=⟨q,P.below y⟩;have F:=qH<|M;have B:=qH<|h0;refine callsIn_of_wp func303 rfl trivial ?_ rfl;simp only[ntmps303,iH,cN,en,Nat.reduceAdd,Nat.reduceSub,nH,nJ,nK,nL,nM,kt];gi_wp2;gi_loopw[3] (λv wr=>∃(k:Nat) (a:zzh),k<=N/\v=Iq ((k:Int)-1)/\Hid (a++eY k=eY N)/\Hid (wr.heap[g]?=some (.cells #[.slice p N c] 85 (0,0))/\oi wr p N f off)/\Hid (J a wr)) (λv _=>(intOf v+1).toNat);case atStart=>grind
 case round=>
  obtain⟨k,a,V,rfl,d,r,h⟩:=hrel;cases k with
  |zero=>gi_wp2;go_end0;exact⟨⟨_,rfl⟩,.inl ⟨_,by have:=d.out;simp_all[eY],h⟩⟩
  |succ i=>
   have H:((i+1:Nat):Int)-1=(i:Int):=dg;rw[H];have u:a.length<N:=by have x:=congrArg List.length d;rw[aI]at x;simp[eY]at x;omega
   have G:wr.cell? (aq g 0)=some (.slice p N c):=by simp[World.cell?,r.1]
   obtain⟨b,o,rfl,O,l⟩:=r.2.resolve_left dg;have S:=(l i dg).1;have c1:=(l i dg).2;obtain⟨fn,A,assign,body,hy,L⟩:=F a i wr h u;dsimp only[TA]at hy;have C:=qH<|L;have s:Hid ((a++[i])++eY i=eY N):=by show _=_;rw[<-d.out,gK];simp
   gi_wp2;refine⟨λ_=>dg,C.mono ?_⟩;rintro e w (⟨rfl,I,m⟩|⟨rfl,j⟩)
   ·have E:Hid (w.heap[g]?=some (.cells #[.slice (some (aq b o)) N c] 85 (0,0))/\oi w (some (aq b o)) N f off):=⟨m.1.trans r.1,r.2.keep m⟩;gi_wp2;go_roundw;case rel=>grind
    case measure=>simp[intOf]<;>omega
   ·gi_wp2;refine bodyPost_ret (results_none rfl _ _ _) rfl ?_;exact⟨⟨_,rfl⟩,.inr ⟨_,⟨i,dg,s⟩,j⟩⟩
theorem sV(p:zze)(N c:Nat)(W:AT):
 Cw 257 #[.slice p N c] W λe w'=>e=Rw (.func (.func 303) #[] #[Pq W.heap.size])/\w'=W.alloc (.cells #[.slice p N c] 85):=by go_enter func257,ntmps257;go_wp2;go_ret;simp_all
theorem Do{b B}{p}(d:b<B)(f:∀a,p=some a->a.block<B)W l o c(g:B<=l)(_:W.heap[l]?=some o)(_:o.isCells=false)(_:o.isWalk=false):kY b p W (W.putObj l c):=
 ⟨World.putObj_heap_other dg,λa e=>World.putObj_heap_other rn⟩
theorem E_{W:AT}{B}{x y}{t}(h:W.heap[B]?=some (.cells #[x,y] t (0,0))):W.cell? (aq B 0)=some x/\W.cell? (aq B 1)=some y:=by simp[World.cell?,h]
theorem yC(id:Int)(p:zze)(N c:Nat)(b off:zzb)(U:AT)(hs:oi U p N b off)(hN:N<=4611686018427387904)(hp:∀a:Addr,p=some a->a.block<U.heap.size):
 Calls prog 191 #[Iq id,.slice p N c] U λe U'=>e=.returned (Iq (gs id b off N))/\Below U.heap.size U U':=by
 by_cases h0:id=0;·subst h0;have M:Hid (gs 0 b off N=0):=if_pos rfl;have HB:Hid (Below U.heap.size U ((U.alloc (.cells #[Iq 0] 3)).alloc (.cells #[Iq 0] 3))):=((ac _ U).alloc (ad _) _).alloc At _;go_enter func191,ntmps191;go_wp2;refine bodyPost_ret (v:=Iq 0) (by simp[results,Tryz.results191,go_sem]) rfl ⟨by rw[M.out],HB⟩
 ·have M:Hid (gs id b off N=gt id b off N):=if_neg h0;refine(callsIn_wide (n:=6)).1 ?_;refine callsIn_of_wp_marks func191 rfl trivial ?_ rfl;simp only[ntmps191,iH,cN,en,Nat.reduceAdd,Nat.reduceSub,nH,nJ,nK,nL,nM,kt];gi_wp2_with fail;refine⟨trivial,(callsIn_wide.2 (sV p N c _)).mono ?_⟩;rintro e w' ⟨rfl,rfl⟩;obtain⟨S,hS⟩:=af U.heap.size;obtain⟨y,l⟩:=af (((U.alloc (.cells #[Iq id] 3)).alloc (.cells #[Iq 0] 3)).alloc (.cells #[.slice p N c] 85));have bI:Boxed y S 3 (Iq id):=by rw[<-l,<-hS];exact((Boxed.new U 3 (Iq id)).alloc _).alloc _
  have bR:Boxed y (S+1) 3 (Iq 0):=by rw[<-l,<-hS];have:=Boxed.new (U.alloc (.cells #[Iq id] 3)) 3 (Iq 0);rw[ai]at this;exact this.alloc _
  have bX:Boxed y (S+2) 85 (.slice p N c):=by rw[<-l,<-hS];have:=Boxed.new ((U.alloc (.cells #[Iq id] 3)).alloc (.cells #[Iq 0] 3)) 85 (.slice p N c);rw[ai,ai]at this;exact this
  have I:Below S U y:=by rw[<-l,<-hS];exact(((ac _ U).alloc (ad _) _).alloc At _).alloc (by simp;omega) _
  have zn:y.heap.size=S+3:=by rw[<-l];simp;omega
  have zi:=hs.below (by subst hS;exact I);have zh:∀a:Addr,p=some a->a.block<S:=λa e=>rn
  rw[ai,ai,l];gi_wp2;refine wpIn_rangeFunc_ownH rfl dg (gf:=303) (lb:=#[Pq (S+1+1)]) rfl trivial (enters_of func303 pt rfl)
   (sU 5 dg (S+1+1) N c p b off hN y zi bX) kY.trans (Do dg (λa e=>rn)) (ac _ _) (λ_=>rfl)
   (λf d=>(((Boxed d S 3 (Iq id)/\Boxed d (S+1) 3 (Iq 0))/\Boxed d (S+1+1) 85 (.slice p N c))/\Below S U d)/\∀i∈f,b i≠id)
   (λV f d=>∃j x,f=j++[x]/\b x=id/\(∀i∈j,b i≠id)/\Boxed d (S+1) 3 (Iq (off x))/\Below S U d/\V=.ret)
   (OwnFrom.and (OwnFrom.and (OwnFrom.and (OwnFrom.and (Own.from (boxed_own S 3 (λ_:List Nat=>Iq id)) _) (Own.from (boxed_own (S+1) 3 (λ_:List Nat=>Iq 0)) _)) (Own.from (boxed_own (S+1+1) 85 (λ_:List Nat=>Value.slice p N c)) _)) (ownFrom_below dg dg)) (λ_ _ _ _ h _ _=>h))
   (λV f A B row ⟨j,x,G,W,X,Y,q,Z⟩ P L=>⟨j,x,G,W,X,(Own.from (boxed_own (S+1) 3 (λ_:Unit=>Iq (off x))) y.heap.size) () A B row Y P L,(ownFrom_below (β:=Unit) (n₀:=S) (w₀:=U) dg dg) () A B row q P L,Z⟩)
   ⟨⟨⟨⟨bI,bR⟩,bX⟩,I⟩,λi hi=>by cases hi⟩
   (λx a' d=>∃t,d.heap[t]?=some (.cells #[Iq (b x),Iq (off x)] 154 (0,0))/\a'={tmps:=#[Iq id,.slice p N c,Pq S,undef,Pq (S+1),undef,Pq t,Iq id,.bool false,.slice p N c,.func (.func 303) #[] #[Pq (S+1+1)],Iq (x:Int),.agg #[Iq (b x),Iq (off x)],undef,undef,undef,undef,undef,undef],defers:=[]})
   ?hAx ?assign ?body ?done ?stop;case hAx=>rintro x a' _ A B row ⟨t,g,z⟩ P L;refine⟨t,(P.block t (aj.1 g).1 (λe=>?_)).trans g,z⟩;obtain⟨_,o,ho,Z⟩:=L t e.symm;rw[g]at ho;cases ho;cases Z
  case assign=>rintro k0 f x d K ⟨⟨⟨⟨m,g⟩,z⟩,q⟩,H⟩ C;dsimp only[TA]at C⊢;have zg:∀o,kY (S+1+1) p d (d.alloc o):=λo=>⟨bB _ _ _ z.lt,λa e=>bB _ _ _ (by have:=zh a e;have:=m.lt;omega)⟩;gi_wp2;exact C _ _ ((KeepsOthers.alloc _ _).from _) (zg _) ⟨⟨⟨⟨m.alloc _,g.alloc _⟩,z.alloc _⟩,q.alloc (by have:=m.lt;omega) _⟩,H⟩ ⟨d.heap.size,heap_alloc_new _ _,rfl⟩
  case body=>
   rintro k0 f x a' d zl ⟨r,L⟩ ⟨⟨⟨⟨m,g⟩,z⟩,q⟩,H⟩ ⟨t,R,rfl⟩ zm;have c1:=m.cell;have c2:=g.cell;have f2:=g.frozen;obtain⟨x0,x1⟩:=E_ R;by_cases hid:b x=id;·have HE:Hid (Boxed (d.setCell (aq (S+1) 0) (Iq (off x))) (S+1) 3 (Iq (off x))/\Below S U (d.setCell (aq (S+1) 0) (Iq (off x)))):=⟨g.set _,q.setCell (p:=(aq (S+1) 0)) rn _⟩;rw[hid]at x0;gi_wp2;exact⟨(KeepsOthers.setCell _ _ _).from _,f,x,rfl,hid,H,HE.1,HE.2,rfl⟩
   ·have G:(b x==id)=false:=by simpa using hid
    gi_wp2;exact⟨(KeepsOthers.refl _).from _,⟨rfl,λ_ _=>rfl⟩,⟨⟨⟨m,g⟩,z⟩,q⟩,λi hi=>rn⟩
  case done=>
   rintro D ys d hD rfl ⟨⟨⟨⟨m,g⟩,z⟩,q⟩,H⟩ C;have c2:=g.cell;have f2:=g.frozen;have u:Hid (gs id b off N=0):=by show _=_;rw[M.out,pL id b off N 0 (eY N) (by simp[eY]) (aP _) H];rfl
   have J:(d.setCell (aq (S+1) 0) (Iq 0)).heap[D]?=some (.deferred (some [])):=(aH d (aq (S+1) 0) _ D rn).trans C;have E:=(g.set (Iq 0)).kept (grownBy_putObj' _ D (.deferred none)) rn;have F:=E.cell;have T:Hid (Below S U ((d.setCell (aq (S+1) 0) (Iq 0)).putObj D (.deferred none))):=(q.setCell (p:=(aq (S+1) 0)) rn _).trans (belowK_b (w:=U) dg _ D _ _ dg J rfl rfl);gi_wp2;refine⟨At,.inl ⟨_,_,rfl,run_takeDeferred J,?_⟩⟩;exact⟨Iq 0,by simp[results,Tryz.results191,go_sem,F],by rw[u.out],by rw[hS];exact T⟩
  case stop=>
   rintro D V f d hD ⟨k,hk,s⟩ ⟨j,x,G,W,X,Y,q,rfl⟩ C;have u:Hid (gs id b off N=off x):=by
    show _=_;have Q:j++eY (k+1)=eY N:=by
     have:=s;rw[G]at this;have R:x=k:=by
      have h9:∀(n:Nat) (j:zzh) (x k:Nat),(j++[x])++eY k=eY n->x=k:=by
       intro n;induction n with
       |zero=>simp_all[eY]
       |succ n ih=>
        intro j x k h;rw[gK]at h;cases j with
        |nil=>simp at h;have:=congrArg List.length h.2;grind[eY]
        |cons a j=>grind
      exact h9 N j x k this
     rw[gK,<-R];rw[<-R]at this;simpa using this
    have ze:k+1<=N:=by have:=congrArg List.length Q;simp[eY]at this;omega
    have zj:x=k:=by
     have m:=s;rw[G]at m;have g:j++(x::eY k)=j++(k::eY k):=by rw[gK]at Q;rw[Q,<-m];simp
     have:=List.append_cancel_left g;injection this
    rw[M.out,pL id b off N (k+1) j Q ze X];show(if b k=id then off k else gt id b off k)=off x;rw[<-zj,if_pos W]
   have E:=Y.kept (grownBy_putObj' d D (.deferred none)) rn;have F:=E.cell;gi_wp2;refine⟨At,.inl ⟨_,_,rfl,run_takeDeferred C,?_⟩⟩;exact⟨Iq (off x),by simp[results,Tryz.results191,go_sem,F],by rw[u.out],by rw[hS];exact q.trans (belowK_b (w:=U) dg d D _ _ dg C rfl rfl)⟩
