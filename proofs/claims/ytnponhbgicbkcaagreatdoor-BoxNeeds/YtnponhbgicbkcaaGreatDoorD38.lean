import Derived.Test.YtnponhbgicbkcaaGreatDoorD00
import Derived.Test.YtnponhbgicbkcaaGreatDoorD37
set_option linter.unusedVariables false
set_option maxRecDepth 100000
set_option maxHeartbeats 16000000
namespace Go.Proofs.YtnponhbgicbkcaaGreatDoor
section
open Go.RowKit Go.Sort
theorem op_bds{n:Nat}{Mn Mx Wt:Nat->Int}(hM:Heldb Mn Mx Wt)(hn:n≤200)(p q:Int):0≤opW n Mn Mx Wt p q∧opW n Mn Mx Wt p q≤20000000∧0≤opB n Mn Mx Wt p q∧opB n Mn Mx Wt p q≤20000000:=by
 have a1:0≤opW n Mn Mx Wt p q:=sumL_nonneg fun j _=>by have:=hM j;split<;>omega
 have a2:opW n Mn Mx Wt p q≤((List.range n).length:Int)*100000:=sumL_bound fun j _=>by have:=hM j;split<;>omega
 have a3:0≤opB n Mn Mx Wt p q:=sumL_nonneg fun j _=>by have:=hM j;split;omega;split<;>omega
 have a4:opB n Mn Mx Wt p q≤((List.range n).length:Int)*100000:=sumL_bound fun j _=>by have:=hM j;split;omega;split<;>omega
 rw[List.length_range]at a2 a4;omega
def BadTo(n:Nat)(Mn Mx Wt:Nat->Int)(r:Int)(i:Nat):Prop:=(0<i->¬goodAt n Mn Mx Wt r 0 1)∧∀j,j+1<i->0<Wt j->¬goodAt n Mn Mx Wt r (Mx j-Mn j) (Wt j)
def PourR(n:Nat)(Mn Mx Wt:Nat->Int)(r p q:Int):Prop:=(p=0∧q=0∧BadTo n Mn Mx Wt r (n+1))∨(0<q∧q≤20000000∧0≤p∧p≤100000∧totI n Mn Mx Wt p q=r*q)
theorem good_iff{n:Nat}{Mn Mx Wt:Nat->Int}{r p q w b:Int}(hw:opW n Mn Mx Wt p q=w)(hb:opB n Mn Mx Wt p q=b):goodAt n Mn Mx Wt r p q↔(w≠0∧0≤r-b∧p*w≤(r-b)*q∧totI n Mn Mx Wt (r-b) w=r*w):=by unfold goodAt;rw[hw,hb]
theorem rPoured_any(n blk off cap:Nat)(Mn Mx Wt:Nat->Int)(r:Int)(w:World)(h:WRow w blk off n Mn Mx Wt)(hn:n≤200)(hM:Heldb Mn Mx Wt)(hr:0≤r∧r≤100000):
 Calls Tryz.prog 61 #[.slice (some ⟨blk,off,none⟩) n cap,.int .i64 r] w fun e w'=>∃p q,e=.returned (.tuple #[.int .i64 p,.int .i64 q])∧PourR n Mn Mx Wt r p q∧Below w.heap.size w w':=by
 have HW:=qH<|h;have HM:=qH<|hM;have r0:=hr.1;have r1:=hr.2;have CO:=qH<|fun p q w h hp hq=>rOpen_any n blk off cap Mn Mx Wt p q w h hn hM hp hq;have CT:=qH<|fun p q w h hp hq=>rTotal_any n blk off cap Mn Mx Wt p q w h hn hM hp hq;have HOB:=qH<|op_bds hM hn;clear h hM hr;go_enter Tryz.func61,Tryz.ntmps61;go_wp2;go_loopw[6] (fun i wr=>∃k:Nat,i=.int .i64 ((k:Int)-1)∧k≤n+1∧Hid (BadTo n Mn Mx Wt r k)∧Below w.heap.size w wr) (fun i _=>((n:Int)-intOf i).toNat);case atStart=>exact⟨0,rfl,by omega,⟨fun h=>by omega,fun j hj=>by omega⟩,Below.refl _ _⟩
 case round=>
  obtain⟨k,rfl,hk,HBad,hbw⟩:=hrel;match k with
  |0=>
   have HBN:Hid (¬goodAt n Mn Mx Wt r 0 1->BadTo n Mn Mx Wt r (0+1)):=fun h=>⟨fun _=>h,fun j hj=>by omega⟩;have HWW:=HW.out.below hbw;have HBW:=qH<|hbw;have hi0:((0:Nat):Int)-1<(n:Int):=by omega
   clear hbw HBad;go_wp2_with fail;have HO:=CO.out 0 1 wr HWW ⟨by omega,by omega⟩ ⟨by omega,by omega⟩;have hob:=HOB.out 0 1;obtain⟨ow,how⟩:∃x,opW n Mn Mx Wt 0 1=x:=⟨_,rfl⟩;obtain⟨ob,hob2⟩:∃x,opB n Mn Mx Wt 0 1=x:=⟨_,rfl⟩;rw[how,hob2]at HO hob;have HOc:=qH<|HO;have HGI:=good_iff (r:=r) how hob2;obtain⟨ow0,ow1,ob0,ob1⟩:=hob;clear HO how hob2;refine Calls.mono HOc.out ?_;rintro e w5 ⟨rfl,b5⟩;have hb5:=HBW.out.trans (b5.mono HBW.out.size);have hs5:=hb5.size;clear b5 HOc;by_cases cw:ow=0
   ·have HN:=qH<|HBN.out fun hg=>(HGI.1 hg).1 cw;subst cw;clear HGI HBN;go_wp2;go_roundw;case rel=>exact⟨0+1,by go_num,by omega,HN.out,hb5⟩
    case measure=>first|(simp[intOf];done)|(simp[intOf];omega)
   ·have cw':(ow==0)=false:=by simpa using cw
    obtain⟨aa,haa⟩:∃x,r-ob=x:=⟨_,rfl⟩;rw[haa]at HGI;have aa1:aa≤100000:=by omega
    have aa0:-20000000≤aa:=by omega
    by_cases ca:aa<0
    ·have HN:=qH<|HBN.out fun hg=>by have:=(HGI.1 hg).2.1;omega
     clear HGI HBN;go_wp2;go_roundw;case rel=>exact⟨0+1,by go_num,by omega,HN.out,hb5⟩
     case measure=>first|(simp[intOf];done)|(simp[intOf];omega)
    ·have HG:=HGI;clear HGI;by_cases cx:aa*1<0*ow;·exact absurd cx (by omega)
     ·have hT:=CT.out aa ow w5 (HW.out.below hb5) ⟨by omega,by omega⟩ ⟨by omega,by omega⟩;obtain⟨tt,htt⟩:∃x,totI n Mn Mx Wt aa ow=x:=⟨_,rfl⟩;obtain⟨rw,hrw⟩:∃x,r*ow=x:=⟨_,rfl⟩;have rwb:=prod_bd r0 r1 ow0 ow1 (by omega);rw[hrw]at rwb;obtain⟨rwc,rwd⟩:=rwb;rw[htt]at hT;have HT:=qH<|hT;have HTT:=qH<|htt;have HRW:=qH<|hrw;have HN:=qH<|HBN.out;have HGc:=qH<|fun hg=>(HG.1 hg).2.2.2;clear HG hT htt HBN;go_wp2_with fail;refine Calls.mono HT.out ?_;rintro e w6 ⟨rfl,b6⟩;have hb6:=hb5.trans (b6.mono hs5);clear b6 HT;by_cases cT:tt=rw;·have HR:Hid (PourR n Mn Mx Wt r aa ow):=.inr ⟨by omega,ow1,by omega,by omega,by rw[HTT.out,HRW.out];exact cT⟩;subst cT;clear hb5 HTT HRW HGc HN;go_wp2;go_ret2;exact⟨aa,ow,rfl,HR.out,hb6⟩
      ·have HN2:=qH<|HN.out fun hg=>cT (by have:=HGc.out hg;rw[HTT.out,HRW.out]at this;exact this);have cT':(tt==rw)=false:=by simpa using cT
       clear hb5 HTT HRW HGc HN;go_wp2;go_roundw;case rel=>exact⟨0+1,by go_num,by omega,HN2.out,hb6⟩
       case measure=>first|(simp[intOf];done)|(simp[intOf];omega)
  |j+1=>
   by_cases hjn:j<n
   ·have hji:((j+1:Nat):Int)-1=(j:Int):=by omega
    rw[hji];have hjn':(j:Int)<(n:Int):=by omega
    have hw1:=HW.out.below hbw;obtain⟨c0,c1,c2⟩:=hw1.2 j hjn;have hz:=hw1.1;have hm:=HM.out j;obtain⟨a1,ha1⟩:∃x,Mn j=x:=⟨_,rfl⟩;obtain⟨a2,ha2⟩:∃x,Mx j=x:=⟨_,rfl⟩;obtain⟨a3,ha3⟩:∃x,Wt j=x:=⟨_,rfl⟩;obtain⟨pp,hpp⟩:∃x,a2-a1=x:=⟨_,rfl⟩;rw[ha1]at c0;rw[ha2]at c1;rw[ha3]at c2;rw[ha1,ha2,ha3]at hm;obtain⟨d1,d2,d3,d4,d5⟩:=hm;have HBN:Hid (¬(0<a3∧goodAt n Mn Mx Wt r pp a3)->BadTo n Mn Mx Wt r (j+1+1)):=fun h=>by
     refine⟨fun _=>HBad.out.1 (by omega),fun i hi hwi=>?_⟩;by_cases e:i=j;·subst e;rw[ha1,ha2,ha3,hpp];rw[ha3]at hwi;exact fun hg=>h ⟨hwi,hg⟩
     ·exact HBad.out.2 i (by omega) hwi
    clear ha1 ha2 ha3 hw1 HBad;by_cases c3:a3=0
    ·have HN:=qH<|HBN.out (by omega);subst c3;clear HBN;go_wp2;go_roundw;case rel=>exact⟨j+1+1,by go_num,by omega,HN.out,hbw⟩
     case measure=>first|(simp[intOf];done)|(simp[intOf];omega)
    ·have c3':(a3==0)=false:=by simpa using c3
     have HBN2:Hid (¬goodAt n Mn Mx Wt r pp a3->BadTo n Mn Mx Wt r (j+1+1)):=fun h=>HBN.out fun hg=>h hg.2;clear HBN;have wpp:IntKind.i64.wrap pp=pp:=IntWalk.i64_in _ ⟨by omega,by omega⟩;have HWW:WRow wr.drew blk off n Mn Mx Wt:=HW.out.below (below_drewN hbw 1);have HBW:Hid (Below w.heap.size w wr.drew):=below_drewN hbw 1;have c2d:wr.drew.cell? ⟨blk,off+j*3+2,none⟩=some (.int .i64 a3):=c2;have pp0:0≤pp:=by omega
     have pp1:pp≤100000:=by omega
     have a30:1≤a3:=by omega
     clear hbw;go_wp2_with fail;go_big_region;go_wp2_with fail;clear hpp;have HO:=CO.out pp a3 wr.drew HWW ⟨by omega,by omega⟩ ⟨by omega,by omega⟩;have hob:=HOB.out pp a3;obtain⟨ow,how⟩:∃x,opW n Mn Mx Wt pp a3=x:=⟨_,rfl⟩;obtain⟨ob,hob2⟩:∃x,opB n Mn Mx Wt pp a3=x:=⟨_,rfl⟩;rw[how,hob2]at HO hob;have HOc:=qH<|HO;have HGI:=good_iff (r:=r) how hob2;obtain⟨ow0,ow1,ob0,ob1⟩:=hob;clear HO how hob2;refine Calls.mono HOc.out ?_;rintro e w5 ⟨rfl,b5⟩;have hb5:=HBW.out.trans (b5.mono HBW.out.size);have hs5:=hb5.size;clear b5 HOc;by_cases cw:ow=0
     ·have HN:=qH<|HBN2.out fun hg=>(HGI.1 hg).1 cw;subst cw;clear HGI HBN2;go_wp2;go_roundw;case rel=>exact⟨j+1+1,by go_num,by omega,HN.out,hb5⟩
      case measure=>first|(simp[intOf];done)|(simp[intOf];omega)
     ·have cw':(ow==0)=false:=by simpa using cw
      obtain⟨aa,haa⟩:∃x,r-ob=x:=⟨_,rfl⟩;rw[haa]at HGI;have aa1:aa≤100000:=by omega
      have aa0:-20000000≤aa:=by omega
      by_cases ca:aa<0
      ·have HN:=qH<|HBN2.out fun hg=>by have:=(HGI.1 hg).2.1;omega
       clear HGI HBN2;go_wp2;go_roundw;case rel=>exact⟨j+1+1,by go_num,by omega,HN.out,hb5⟩
       case measure=>first|(simp[intOf];done)|(simp[intOf];omega)
      ·have HG:=HGI;clear HGI;obtain⟨x1,hx1⟩:∃x,aa*a3=x:=⟨_,rfl⟩;obtain⟨x2,hx2⟩:∃x,pp*ow=x:=⟨_,rfl⟩;rw[hx1,hx2]at HG;have x1b:=prod_bd (show 0≤aa by omega) (show aa≤100000 by omega) (show 0≤a3 by omega) (show a3≤100000 by omega) (by omega);have x2b:=prod_bd (show 0≤pp by omega) (show pp≤100000 by omega) (show 0≤ow by omega) ow1 (by omega);rw[hx1]at x1b;rw[hx2]at x2b;obtain⟨x1c,x1d⟩:=x1b;obtain⟨x2c,x2d⟩:=x2b;by_cases cx:x1<x2
       ·have HN:=qH<|HBN2.out fun hg=>by have:=(HG.1 hg).2.2.1;omega
        clear HG HBN2;go_wp2;go_roundw;case rel=>exact⟨j+1+1,by go_num,by omega,HN.out,hb5⟩
        case measure=>first|(simp[intOf];done)|(simp[intOf];omega)
       ·have hT:=CT.out aa ow w5 (HW.out.below hb5) ⟨by omega,by omega⟩ ⟨by omega,by omega⟩;obtain⟨tt,htt⟩:∃x,totI n Mn Mx Wt aa ow=x:=⟨_,rfl⟩;obtain⟨rw,hrw⟩:∃x,r*ow=x:=⟨_,rfl⟩;have rwb:=prod_bd r0 r1 ow0 ow1 (by omega);rw[hrw]at rwb;obtain⟨rwc,rwd⟩:=rwb;rw[htt]at hT;have HT:=qH<|hT;have HTT:=qH<|htt;have HRW:=qH<|hrw;have HN:=qH<|HBN2.out;have HGc:=qH<|fun hg=>(HG.1 hg).2.2.2;clear HG hT htt HBN2;go_wp2_with fail;refine Calls.mono HT.out ?_;rintro e w6 ⟨rfl,b6⟩;have hb6:=hb5.trans (b6.mono hs5);clear b6 HT;by_cases cT:tt=rw;·have HR:Hid (PourR n Mn Mx Wt r aa ow):=.inr ⟨by omega,ow1,by omega,by omega,by rw[HTT.out,HRW.out];exact cT⟩;subst cT;clear hb5 HTT HRW HGc HN;go_wp2;go_ret2;exact⟨aa,ow,rfl,HR.out,hb6⟩
        ·have HN2:=qH<|HN.out fun hg=>cT (by have:=HGc.out hg;rw[HTT.out,HRW.out]at this;exact this);have cT':(tt==rw)=false:=by simpa using cT
         clear hb5 HTT HRW HGc HN;go_wp2;go_roundw;case rel=>exact⟨j+1+1,by go_num,by omega,HN2.out,hb6⟩
         case measure=>first|(simp[intOf];done)|(simp[intOf];omega)
   ·obtain rfl:n=j:=by omega
    have hjn':¬((n+1:Nat):Int)-1<(n:Int):=by omega
    have HR:Hid (PourR n Mn Mx Wt r 0 0):=.inl ⟨rfl,rfl,HBad.out⟩;clear HBad;go_wp2;go_ret2;exact⟨0,0,rfl,HR.out,hbw⟩
end
section
open Go.RowKit Go.Sort
theorem SSt.set{w wr:World}{cw lb n k:Nat}{mn mx wt:Nat->Int}(h:SSt w wr cw lb n k mn mx wt)(hk:k<n)(hne:lb≠cw)(hB:w.heap.size≤lb):SSt w (wr.setCell ⟨lb,0+k,none⟩ (.int .i64 (mn k))) cw lb n (k+1) mn mx wt:=by
 refine⟨(h.len.set k (mn k) hk).congr fun j hj=>?_,h.want.other _ _ _ hne,h.bel.setCell hB _⟩;unfold upd;by_cases e:j=k;·subst e;rw[if_pos rfl,if_pos (by omega)]
 ·rw[if_neg e];dsimp only;by_cases e2:j<k;·rw[if_pos e2,if_pos (by omega)]
  ·rw[if_neg e2,if_neg (by omega)]
theorem sumL_upd(g:Nat->Int)(n c:Nat)(hc:c<n)(v:Int):sumL (upd g c v) (List.range n)=sumL g (List.range n)-g c+v:=by
 have e:sumL (upd g c v) (List.range n)=sumL g (List.range n)+sumL (fun j=>if j∈[c]then v-g j else 0) (List.range n):=by
  rw[<-sumL_add];refine sumL_congr fun j _=>?_;unfold upd;by_cases e:j=c;·subst e;simp;omega
  ·simp[e]
 rw[e,sumL_if (by simp) (fun j hj=>by simp at hj;omega)];rw[sumL_cons,sumL_nil];omega
structure ShrI(n:Nat)(mn:Nat->Int)(r:Int)(c:Nat)(s:Int)(g:Nat->Int):Prop where
 ahead:∀j,j<c->g j=mn j
 bd:∀j,j<n->0≤g j∧g j≤mn j
 sum:s=sumL g (List.range n)
 ge:r≤s
 zero:r<s->∀j,c≤j->j<n->g j=0
 behind:∀i k,i<k->k<n->g i<mn i->g k=0
theorem ShrI.next{n:Nat}{mn:Nat->Int}{r:Int}{c:Nat}{s:Int}{g:Nat->Int}(h:ShrI n mn r (c+1) s g)(hc:c<n)(hrs:r<s)(y:Int)(hy:y=min (s-r) (g c)):ShrI n mn r c (s-y) (upd g c (g c-y)):=by
 have hb:=h.bd c hc;have hne:∀j,j≠c->upd g c (g c-y) j=g j:=fun j e=>by unfold upd;rw[if_neg e]
 have heq:upd g c (g c-y) c=g c-y:=by unfold upd;rw[if_pos rfl]
 refine⟨fun j hj=>?_,fun j hj=>?_,?_,by have:=h.ge;omega,fun hlt j h1 h2=>?_,fun i k hik hk hlt=>?_⟩;·rw[hne j (by omega)];exact h.ahead j (by omega)
 ·by_cases e:j=c;·subst e;rw[heq];omega
  ·rw[hne j e];exact h.bd j hj
 ·rw[sumL_upd g n c hc,<-h.sum];omega
 ·by_cases e:j=c;·subst e;rw[heq];omega
  ·rw[hne j e];exact h.zero hrs j (by omega) h2
 ·by_cases e:k=c;·subst e;rw[hne i (by omega),h.ahead i (by omega)]at hlt;omega
  ·rw[hne k e];by_cases e2:k<c;·rw[hne i (by omega),h.ahead i (by omega)]at hlt;omega
   ·exact h.zero hrs k (by omega) hk
theorem ShrI.back{n:Nat}{mn:Nat->Int}{r:Int}{c:Nat}{s:Int}{g:Nat->Int}(h:ShrI n mn r c s g)(hr:0≤r)(he:c=0∨s≤r):Back n mn r g:=by
 refine⟨h.bd,?_,h.behind⟩;by_cases e:r<s
 ·rcases he with e2|e2
  ·subst e2;have hz:sumL g (List.range n)≤0:=by
    have:sumL g (List.range n)≤((List.range n).length:Int)*0:=sumL_bound fun j hj=>by rw[h.zero e j (by omega) (by simpa using hj)];exact Int.le_refl _
    omega
   have:=h.sum;omega
  ·omega
 ·have:=h.sum;have:=h.ge;omega
theorem rShrunk_any(n blk cap:Nat)(Mn Mx Wt:Nat->Int)(r:Int)(w:World)(h:WRow w blk 0 n Mn Mx Wt)(hn:n≤200)(hM:Heldb Mn Mx Wt)(hr:0≤r∧r≤100000)(hlt:r<sumL Mn (List.range n)):
 Calls Tryz.prog 60 #[.slice (some ⟨blk,0,none⟩) n cap,.int .i64 r] w fun e w'=>e=.returned (.slice (some ⟨w.heap.size,0,none⟩) n n)∧(∃g,FRow w' w.heap.size 0 n g∧Back n Mn r g)∧Below w.heap.size w w':=by
 have HW:=qH<|h;have HM:=qH<|hM;have HLT:=qH<|hlt;have r0:=hr.1;have r1:=hr.2;have hzb:=h.1;have hmk:=run_make_row' (P:=Tryz.prog) 67 3 (.int .i64 0) 8 Tryz.underlying67 info3row rfl .i64 .i64 n (by omega) (by omega);clear h hM hr hlt;go_enter Tryz.func60,Tryz.ntmps60;go_wp2;have S0:Hid (SSt w (w.alloc (.cells (madeCells #[.int .i64 0] n) 3)) blk w.heap.size n 0 Mn Mx Wt):=by
  have b1:Below w.heap.size w (w.alloc (.cells (madeCells #[.int .i64 0] n) 3)):=(Below.refl _ w).alloc (Nat.le_refl _) _;refine⟨⟨by simp,fun j hj=>⟨?_,?_⟩⟩,HW.out.below b1,b1⟩;·rw[World.cell?_alloc_at _ _ _ _ rfl];simp[madeCells,hj,Nat.mod_one]
  ·rw[World.frozen?_alloc_at _ _ _ _ rfl]
 obtain⟨lb,hlb⟩:∃lb,w.heap.size=lb:=⟨_,rfl⟩;have HSm:Hid (∀k,sumL Mn (List.range (k+1))=sumL Mn (List.range k)+Mn k):=fun k=>by rw[List.range_succ,sumL_snoc]
 have HSb:Hid (∀k,0≤sumL Mn (List.range k)∧sumL Mn (List.range k)≤(k:Int)*100000):=fun k=>by
  refine⟨sumL_nonneg fun j _=>(HM.out j).1,?_⟩;have:=sumL_bound (f:=Mn) (l:=List.range k) (b:=100000) fun j _=>by have:=HM.out j;omega
  rw[List.length_range]at this;exact this
 have hBl:w.heap.size≤lb:=by omega
 have hbl:blk<lb:=by omega
 have HLB:=qH<|hlb;rw[hlb]at S0⊢;clear hmk HW;go_loopw[6,7] (fun s i wr=>∃(k:Nat) (x:Int),s=.int .i64 x∧i=.int .i64 k∧k≤n∧0≤x∧x≤(k:Int)*100000∧Hid (x=sumL Mn (List.range k))∧Hid (SSt w wr blk lb n k Mn Mx Wt)) (fun _ i _=>n-(intOf i).toNat);case atStart=>exact⟨0,0,rfl,rfl,Nat.zero_le _,by omega,by omega,rfl,S0.out⟩
 case round=>
  obtain⟨k,x,rfl,rfl,hk,x0,x1,HX,HS⟩:=hrel;by_cases hlt:k<n
  ·have hlt':(k:Int)<(n:Int):=by omega
   have hs:=HS.out;have hsm:=HSm.out k;have hcw:=(hs.want.2 k hlt).1;rw[Nat.zero_add]at hcw;obtain⟨a1,ha1⟩:∃x,Mn k=x:=⟨_,rfl⟩;have hmk:=HM.out k;rw[ha1]at hsm hcw hmk;have hzc:=hs.want.1;have hzl:=hs.len.1;have cl1:wr.cell? ⟨lb,k,none⟩=some (.int .i64 0):=by have:=(hs.len.2 k hlt).1;dsimp only at this;rw[if_neg (by omega),Nat.zero_add]at this;exact this
   have fl1:wr.frozen? ⟨lb,k,none⟩=false:=by have:=(hs.len.2 k hlt).2;rw[Nat.zero_add]at this;exact this
   have HX2:Hid (x+a1=sumL Mn (List.range (k+1))):=by show _=_;rw[hsm,HX.out]
   have HN:Hid (SSt w (wr.setCell ⟨lb,k,none⟩ (.int .i64 a1)) blk lb n (k+1) Mn Mx Wt):=by have:=hs.set hlt (by omega) (by omega);rw[ha1,Nat.zero_add]at this;exact this
   have hm1:=hmk.1;have hm2:a1≤100000:=by omega
   have hk1:((k+1:Nat):Int)*100000=(k:Int)*100000+100000:=by omega
   clear hs hsm ha1 hmk HX HS;go_wp2;go_roundw;case rel=>exact⟨k+1,x+a1,rfl,by go_num,by omega,by omega,by omega,HX2.out,HN.out⟩
   case measure=>simp[intOf];omega
  ·have hge:¬(k:Int)<(n:Int):=by omega
   obtain rfl:n=k:=by omega
   have hs:=HS.out;have hrow:=hs.len.congr fun j hj=>by rw[if_pos hj]
   have I0:Hid (ShrI n Mn r n x Mn):=⟨fun _ _=>rfl,fun j _=>by have:=HM.out j;omega,HX.out,by rw[HX.out];exact Int.le_of_lt HLT.out,fun _ j h1 h2=>by omega,fun i k _ _ h=>by omega⟩;have R0:Hid (FRow wr lb 0 n Mn∧Below w.heap.size w wr):=⟨hrow,hs.bel⟩;clear hs hrow HX HS;go_wp2;go_loopw[6,8] (fun s i wq=>∃(c:Nat) (x:Int) (g:Nat->Int),s=.int .i64 x∧i=.int .i64 ((c:Int)-1)∧c≤n∧0≤x∧x≤20000000∧Hid (ShrI n Mn r c x g)∧Hid (FRow wq lb 0 n g∧Below w.heap.size w wq)) (fun _ i _=>(intOf i+1).toNat);case atStart=>exact⟨n,x,Mn,rfl,rfl,Nat.le_refl _,x0,by omega,I0.out,R0.out⟩
   case round=>
    obtain⟨c,s,g,rfl,rfl,hc,s0,s1,HI,HR⟩:=hrel;by_cases hgo:0<c∧r<s
    ·obtain⟨hc0,hrs⟩:=hgo;obtain⟨d,rfl⟩:∃d,c=d+1:=⟨c-1,by omega⟩;have hdn:d<n:=by omega
     have hd1:((d+1:Nat):Int)-1=(d:Int):=by omega
     rw[hd1];have hdn':(d:Int)<(n:Int):=by omega
     have hd0:(0:Int)≤(d:Int):=by omega
     have hcell:=(HR.out.1.2 d hdn);rw[Nat.zero_add]at hcell;have hgb:=HI.out.bd d hdn;have hmm:=HM.out d;obtain⟨x2,hx2⟩:∃x,g d=x:=⟨_,rfl⟩;rw[hx2]at hcell hgb;obtain⟨cl1,fl1⟩:=hcell;have b1:=hgb.1;have b2:x2≤100000:=by omega
     obtain⟨sr,hsr⟩:∃x,s-r=x:=⟨_,rfl⟩;have HNx:Hid (∀y,y=min sr x2->ShrI n Mn r d (s-y) (upd g d (x2-y))∧FRow (wr.setCell ⟨lb,d,none⟩ (.int .i64 (x2-y))) lb 0 n (upd g d (x2-y))∧Below w.heap.size w (wr.setCell ⟨lb,d,none⟩ (.int .i64 (x2-y)))):=fun y hy=>by have h1:=HI.out.next hdn hrs y (by rw[hsr,hx2];exact hy);rw[hx2]at h1;have h2:=HR.out.1.set d (x2-y) hdn;rw[Nat.zero_add]at h2;exact⟨h1,h2,HR.out.2.setCell hBl _⟩
     clear hgb hmm hx2 HI HR hd1;by_cases hgt:x2<sr
     ·have hN:=HNx.out x2 (by omega);have HN1:=qH<|hN.1;have HN2:Hid (FRow (wr.setCell ⟨lb,d,none⟩ (.int .i64 0)) lb 0 n (upd g d (x2-x2))∧Below w.heap.size w (wr.setCell ⟨lb,d,none⟩ (.int .i64 0))):=by have:=hN.2;rw[Int.sub_self]at this⊢;exact this
      clear hN HNx;go_wp2;go_roundw;case rel=>exact⟨d,s-x2,_,rfl,rfl,by omega,by omega,by omega,HN1.out,HN2.out⟩
      case measure=>simp[intOf]<;>omega
     ·have hN:=HNx.out sr (by omega);have HN1:=qH<|hN.1;have HN2:=qH<|hN.2;clear hN HNx;go_wp2;go_roundw;case rel=>exact⟨d,s-sr,_,rfl,rfl,by omega,by omega,by omega,HN1.out,HN2.out⟩
      case measure=>simp[intOf]<;>omega
    ·have HF:Hid (∃g,FRow wr lb 0 n g∧Back n Mn r g):=⟨g,HR.out.1,HI.out.back r0 (by omega)⟩;have HB:=qH<|HR.out.2;clear HI HR;by_cases hc0:0<c
     ·have hle:¬r<s:=by omega
      have hc1:(0:Int)≤(c:Int)-1:=by omega
      go_wp2;go_ret;exact⟨rfl,HF.out,by rw[<-HLB.out];exact HB.out⟩
     ·have hc1:¬(0:Int)≤(c:Int)-1:=by omega
      go_wp2;go_ret;exact⟨rfl,HF.out,by rw[<-HLB.out];exact HB.out⟩
end
section
open Go.RowKit Go.Sort
theorem infoRWant:(Tryz.prog.info? 120).map (fun i=>(i.zero,i.size,i.bytes))=some (some (.agg #[.int .i64 0,.int .i64 0,.int .i64 0]),3,24):=by kernel_rfl
theorem hb_held(a b c:Nat->Int):Heldb (fun j=>cl (a j)) (fun j=>hMax (a j) (b j)) (fun j=>cl (c j)):=fun j=>
 ⟨(cl_bd _).1,(hMax_bd _ _).1,(hMax_bd _ _).2,(cl_bd _).1,(cl_bd _).2⟩
theorem own_belowS{w w':World}{B n size:Nat}{e:TypeId}{v:Value}{xs:List Value}(h:w.ownsRow B e size v n xs)(hb:Below w.heap.size w w'):w'.ownsRow B e size v n xs:=by
 refine⟨h.1,?_⟩;rcases h.2 with h2|⟨g,cap,cur,a,b,c,d⟩;·exact .inl h2
 ·exact .inr ⟨g,cap,cur,a,b,by rw[hb.block g (Array.getElem?_eq_some_iff.1 c).1];exact c,d⟩
theorem none_of{n:Nat}{Mn Mx Wt:Nat->Int}{r:Int}{g:Nat->Int}(hM:Heldb Mn Mx Wt)(hsp:SplitIs n Mn Mx Wt r g)(hle:sumL Mn (List.range n)≤r)(hbad:BadTo n Mn Mx Wt r (n+1)):∀j,j<n->g j=if 0<Wt j then Mx j else Mn j:=by
 have hw:=fun j=>(hM j).2.1;have hp:=fun j=>(hM j).2.2.2.1;rcases hsp with⟨h1,_⟩|⟨_,A,S,L,V,m,h⟩;·omega
 ·obtain⟨nA,nS,hd,fA,fS,hall⟩:=h.facts;by_cases hS:S=[]
  ·subst hS;intro j hj;rw[h.is j hj];by_cases c:j∈A;·rw[if_pos c,if_pos (fA j c).2]
   ·rw[if_neg c,if_neg (by simp),if_neg];intro h2;rcases hall j hj h2 with h3|h3;·exact c h3
    ·simp at h3
  ·exfalso;rcases h.cand hw hp hS with h1|⟨i,hi,wi,h1⟩;·exact hbad.1 (by omega) h1
   ·exact hbad.2 i (by omega) wi h1
structure GSt(w wr:World)(lw ob n k:Nat)(mn mx wt g:Nat->Int):Prop where
 len:FRow wr ob 0 n (fun j=>if j<k then g j else 0)
 want:WRow wr lw 0 n mn mx wt
 bel:Below w.heap.size w wr
theorem upd_lt{g:Nat->Int}{k:Nat}(v:Int)(hv:v=g k):∀j,upd (fun j=>if j<k then g j else 0) k v j=if j<k+1 then g j else 0:=fun j=>by
 unfold upd;by_cases e:j=k;·subst e;rw[if_pos rfl,if_pos (by omega),hv]
 ·rw[if_neg e];dsimp only;by_cases e2:j<k;·rw[if_pos e2,if_pos (by omega)]
  ·rw[if_neg e2,if_neg (by omega)]
theorem upd_upd(g:Nat->Int)(k:Nat)(x v:Int):upd (upd g k x) k v=upd g k v:=by funext j;unfold upd;by_cases e:j=k<;>simp[e]
theorem GSt.set{w wr:World}{lw ob n k:Nat}{mn mx wt g:Nat->Int}(h:GSt w wr lw ob n k mn mx wt g)(hk:k<n)(hne:ob≠lw)(hB:w.heap.size≤ob)(v:Int)(hv:v=g k):GSt w (wr.setCell ⟨ob,k,none⟩ (.int .i64 v)) lw ob n (k+1) mn mx wt g:=by have h1:=h.len.set k v hk;rw[Nat.zero_add]at h1;exact⟨h1.congr fun j _=>upd_lt v hv j,h.want.other _ _ _ hne,h.bel.setCell hB _⟩
theorem GSt.set2{w wr:World}{lw ob n k:Nat}{mn mx wt g:Nat->Int}(h:GSt w wr lw ob n k mn mx wt g)(hk:k<n)(hne:ob≠lw)(hB:w.heap.size≤ob)(x v:Int)(hv:v=g k):GSt w ((wr.setCell ⟨ob,k,none⟩ (.int .i64 x)).setCell ⟨ob,k,none⟩ (.int .i64 v)) lw ob n (k+1) mn mx wt g:=by have h1:=(h.len.set k x hk).set k v hk;rw[Nat.zero_add,upd_upd]at h1;exact⟨h1.congr fun j _=>upd_lt v hv j,(h.want.other _ _ _ hne).other _ _ _ hne,(h.bel.setCell hB _).setCell hB _⟩
structure HSt(w wr:World)(lw ob rb n k:Nat)(mn mx wt base rest:Nat->Int):Prop where
 len:FRow wr ob 0 n (fun j=>if j<k then base j else 0)
 res:FRow wr rb 0 n (fun j=>if j<k then rest j else 0)
 want:WRow wr lw 0 n mn mx wt
 bel:Below w.heap.size w wr
theorem HSt.below{w W W':World}{lw ob rb n k:Nat}{mn mx wt base rest:Nat->Int}(h:HSt w W lw ob rb n k mn mx wt base rest)(hb:Below W.heap.size W W'):HSt w W' lw ob rb n k mn mx wt base rest:=
 ⟨h.len.below hb,h.res.below hb,h.want.below hb,h.bel.trans (hb.mono h.bel.size)⟩
theorem HSt.set{w wr:World}{lw ob rb n k:Nat}{mn mx wt base rest:Nat->Int}(h:HSt w wr lw ob rb n k mn mx wt base rest)(hk:k<n)(h1:lw<ob)(h2:ob<rb)(hB:w.heap.size≤ob)(x y:Int)(hx:x=base k)(hy:y=rest k):HSt w ((wr.setCell ⟨ob,k,none⟩ (.int .i64 x)).setCell ⟨rb,k,none⟩ (.int .i64 y)) lw ob rb n (k+1) mn mx wt base rest:=by have a1:=(h.len.set k x hk);have a2:=((h.res.other ob k (.int .i64 x) (by omega)).set k y hk);rw[Nat.zero_add]at a1 a2;exact⟨(a1.other _ _ _ (by omega)).congr fun j _=>upd_lt x hx j,a2.congr fun j _=>upd_lt y hy j,(h.want.other _ _ _ (by omega)).other _ _ _ (by omega),(h.bel.setCell hB _).setCell (by show _≤rb;omega) _⟩
structure KSt(w wr:World)(ob rb n:Nat)(base rest:Nat->Int)(S:List Nat)(t:Nat):Prop where
 len:FRow wr ob 0 n (fun j=>base j+(if j∈S.take t then 1 else 0))
 res:FRow wr rb 0 n (fun j=>if j∈S.take t then-1 else rest j)
 bel:Below w.heap.size w wr
theorem KSt.below{w W W':World}{ob rb n:Nat}{base rest:Nat->Int}{S:List Nat}{t:Nat}(h:KSt w W ob rb n base rest S t)(hb:Below W.heap.size W W'):KSt w W' ob rb n base rest S t:=
 ⟨h.len.below hb,h.res.below hb,h.bel.trans (hb.mono h.bel.size)⟩
theorem KSt.next{w wr:World}{ob rb n:Nat}{base rest:Nat->Int}{S:List Nat}{t:Nat}(h:KSt w wr ob rb n base rest S t)(hS:S.Nodup)(ht:t<S.length)(i:Nat)(hi:S[t]?.getD 0=i)(hin:i<n)(h2:ob<rb)(hB:w.heap.size≤ob):
 KSt w ((wr.setCell ⟨ob,i,none⟩ (.int .i64 (base i+1))).setCell ⟨rb,i,none⟩ (.int .i64 (-1))) ob rb n base rest S (t+1):=by
 have htk:=takeN_next S t ht;have hni:=atN_notin hS ht;rw[hi]at htk hni;have hm:∀j,j∈S.take (t+1)↔j∈S.take t∨j=i:=fun j=>by rw[htk];simp
 have a1:=(h.len.set i (base i+1) hin);have a2:=((h.res.other ob i (.int .i64 (base i+1)) (by omega)).set i (-1) hin);rw[Nat.zero_add]at a1 a2;refine⟨(a1.other _ _ _ (by omega)).congr fun j _=>?_,a2.congr fun j _=>?_,(h.bel.setCell hB _).setCell (by show _≤rb;omega) _⟩
 ·unfold upd;by_cases e:j=i;·subst e;rw[if_pos rfl,if_pos ((hm j).2 (.inr rfl))]
  ·rw[if_neg e];dsimp only;by_cases e2:j∈S.take t;·rw[if_pos e2,if_pos ((hm j).2 (.inl e2))]
   ·rw[if_neg e2,if_neg (fun h=>by rcases(hm j).1 h with h|h;exact e2 h;exact e h)]
 ·unfold upd;by_cases e:j=i;·subst e;rw[if_pos rfl,if_pos ((hm j).2 (.inr rfl))]
  ·rw[if_neg e];dsimp only;by_cases e2:j∈S.take t;·rw[if_pos e2,if_pos ((hm j).2 (.inl e2))]
   ·rw[if_neg e2,if_neg (fun h=>by rcases(hm j).1 h with h|h;exact e2 h;exact e h)]
theorem best_one(f:Nat->Int):Best 1 f 0:=⟨by omega,fun j hj=>by rw[show j=0 by omega];exact Int.le_refl _,fun j hj=>by omega⟩
theorem best_up{f:Nat->Int}{i b:Nat}(h:Best i f b)(c:f b<f i):Best (i+1) f i:=
 ⟨by omega,fun j hj=>by
  by_cases e:j=i;·rw[e];exact Int.le_refl _
  ·have:=h.top j (by omega);omega,fun j hj=>by have:=h.top j hj;omega⟩
theorem best_stay{f:Nat->Int}{i b:Nat}(h:Best i f b)(c:¬f b<f i):Best (i+1) f b:=
 ⟨by have:=h.lt;omega,fun j hj=>by
  by_cases e:j=i;·rw[e];omega
  ·exact h.top j (by omega),h.first⟩
theorem rSplit_some(n blk off cap:Nat)(a b c:Nat->Int)(room gap:Int)(w:World)(h:WRow w blk off n a b c)(hn0:0<n)(hn:n≤200)(g:Nat->Int)(hsp:SplitIs n (fun j=>cl (a j)) (fun j=>hMax (a j) (b j)) (fun j=>cl (c j)) (rm room gap n) g):
 Calls Tryz.prog 33 #[.int .i64 room,.int .i64 gap,.slice (some ⟨blk,off,none⟩) n cap] w fun e w'=>∃ob,e=.returned (.slice (some ⟨ob,0,none⟩) n n)∧w.heap.size≤ob∧FRow w' ob 0 n g∧Below w.heap.size w w':=by
 obtain⟨i0,hi,hz0,hz1,hz2⟩:=info_parts infoRWant;have HW:=qH<|h;have hblk:=h.1;have C3:=qH<|rHeld_any;have CR:=qH<|fun w=>rRoom_any room gap n hn0 hn w;obtain⟨r,hr⟩:∃x,rm room gap n=x:=⟨_,rfl⟩;have hr0:=rm_nonneg room gap n;have hr1:=rm_le room gap n hn0;rw[hr]at CR hr0 hr1 hsp;obtain⟨mn,hmn⟩:∃f:Nat->Int,(fun j=>cl (a j))=f:=⟨_,rfl⟩;obtain⟨mx,hmx⟩:∃f:Nat->Int,(fun j=>hMax (a j) (b j))=f:=⟨_,rfl⟩;obtain⟨wt,hwt⟩:∃f:Nat->Int,(fun j=>cl (c j))=f:=⟨_,rfl⟩;have hM:=hb_held a b c;have Hmn:Hid (∀j,cl (a j)=mn j):=fun j=>by rw[<-hmn]
 have Hmx:Hid (∀j,hMax (a j) (b j)=mx j):=fun j=>by rw[<-hmx]
 have Hwt:Hid (∀j,cl (c j)=wt j):=fun j=>by rw[<-hwt]
 rw[hmn,hmx,hwt]at hsp hM;have HM:=qH<|hM;have HSP:=qH<|hsp;have h2':¬(200:Int)<(n:Int):=by omega
 have hn3:(n:Int)≤200:=by omega
 clear h hsp hM hmn hmx hwt hr;go_enter Tryz.func33,Tryz.ntmps33;go_wp2;go_loopw[7,8,9] (fun v s i wr=>∃(k:Nat) (x:Int),s=.int .i64 x∧i=.int .i64 k∧k≤n∧0≤x∧x≤(k:Int)*100000∧Hid (x=sumL mn (List.range k))∧wr.ownsRow w.heap.size 120 3 v k (wCells mn mx wt k)∧Below w.heap.size w wr) (fun _ _ i _=>n-(intOf i).toNat);case atStart=>exact⟨0,0,rfl,rfl,Nat.zero_le _,by omega,by omega,rfl,World.ownsRow_nil _ _ _ _,Below.refl _ _⟩
 case round=>
  obtain⟨k,x,rfl,rfl,hk,x0,x1,HX,hown,hbw⟩:=hrel;by_cases hlt:k<n
  ·have hlt':(k:Int)<(n:Int):=by omega
   have hw1:=HW.out.below hbw;obtain⟨c0,c1,c2⟩:=hw1.2 k hlt;have hz:=hw1.1;have hm:=HM.out k;have e1:=Hmn.out k;have e2:=Hmx.out k;have e3:=Hwt.out k;obtain⟨a1,ha1⟩:∃x,a k=x:=⟨_,rfl⟩;obtain⟨a2,ha2⟩:∃x,b k=x:=⟨_,rfl⟩;obtain⟨a3,ha3⟩:∃x,c k=x:=⟨_,rfl⟩;obtain⟨m1,hm1⟩:∃x,mn k=x:=⟨_,rfl⟩;obtain⟨m2,hm2⟩:∃x,mx k=x:=⟨_,rfl⟩;obtain⟨m3,hm3⟩:∃x,wt k=x:=⟨_,rfl⟩;rw[ha1]at c0;rw[ha2]at c1;rw[ha3]at c2;rw[ha1,hm1]at e1;rw[ha1,ha2,hm2]at e2;rw[ha3,hm3]at e3;rw[hm1,hm2,hm3]at hm;obtain⟨d1,d2,d3,d4,d5⟩:=hm;have CH:=qH<|fun w=>by have:=C3.out a1 a2 a3 w;rw[e1,e2,e3]at this;exact this
   have HS:Hid (wCells mn mx wt (k+1)=wCells mn mx wt k++[.int .i64 m1,.int .i64 m2,.int .i64 m3]):=by show _=_;rw[wCells,hm1,hm2,hm3]
   have HX2:Hid (x+m1=sumL mn (List.range (k+1))):=by show _=_;rw[List.range_succ,sumL_snoc,<-HX.out,hm1]
   have hk1:((k+1:Nat):Int)*100000=(k:Int)*100000+100000:=by omega
   have hzr:=hbw.size;clear hw1 ha1 ha2 ha3 hm1 hm2 hm3 HX e1 e2 e3;go_wp2_with fail;refine(CH.out _).mono ?_;rintro e w5 ⟨rfl,b5⟩;have hb6:=hbw.trans (b5.mono hzr);have hown5:=own_belowS hown b5;have hz5:=b5.size;clear b5 hbw hown;go_wp2_with(at_builtin;refine wpList_append_own _ rfl _ _ 86 rfl w.heap.size 120 i0 (.agg #[.int .i64 0,.int .i64 0,.int .i64 0]) 3 24 Tryz.underlying86 hi hz0 hz1 hz2 rfl (by decide) _ _ _ rfl ((hown5.alloc _).alloc _) _ 1 1 [.int .i64 m1,.int .i64 m2,.int .i64 m3] rfl rfl ?c1 ?c2 ?c3 ?c4 ?c5 ?_);case c1=>intro j u hj;have:=cell_three_new (w5.alloc (.cells #[.int .i64 m1,.int .i64 m2,.int .i64 m3] 120)) (.int .i64 m1) (.int .i64 m2) (.int .i64 m3) 120 j u hj;rw[World.size_alloc]at this;exact this
   case c2=>intro u hu;simp at hu;rcases hu with rfl|rfl|rfl<;>rfl
   case c3=>unfold maxLen;omega
   case c4=>omega
   case c5=>simp;omega
   intro v' w6 hown' hg _;have hrow:=fun q hq=>hown5.lt q hq;have hb7:=((hb6.alloc (by omega) _).alloc (by simp;omega) _).grown hg (by simp;omega) (fun q hq=>(hrow q hq).1);have cx:w6.cell? ⟨w5.heap.size,0,none⟩=some (.int .i64 m1):=by refine hg.cell ?_ (fun e=>by have:w.heap.size≤w5.heap.size∧w5.heap.size<w5.heap.size:=hrow _ e.symm;omega);rw[World.cell?_alloc_past _ _ _ (by simp),World.cell?_alloc_at _ _ _ _ rfl];rfl
   clear hg hrow hown5 hb6;go_wp2;go_roundw;case rel=>exact⟨k+1,x+m1,rfl,by go_num,by omega,by omega,by omega,HX2.out,by rw[HS.out];exact hown',hb7⟩
   case measure=>simp[intOf];omega
  ·have hge:¬(k:Int)<(n:Int):=by omega
   obtain rfl:n=k:=by omega
   obtain⟨p,cp,rfl,hval⟩:=wval_own hown;obtain⟨lw,rfl,hlwB,hlw⟩:=hval.resolve_left (by omega);have HLW:=qH<|hlw;have HBW:=qH<|hbw;have hzl:=hlw.1;have hzr:=hbw.size;obtain⟨w3,rfl⟩:∃w3,w3=wr:=⟨_,rfl⟩;clear hval hown hlw hbw HW;by_cases hsum:r<x
   ·have CS:=qH<|rShrunk_any n lw cp mn mx wt r w3 HLW.out hn HM.out ⟨hr0,hr1⟩ (by rw[<-HX.out];exact hsum);have HBk:Hid (Back n mn r g):=by
     rcases HSP.out with⟨_,hb⟩|⟨h1,_⟩;·exact hb
     ·rw[<-HX.out]at h1;omega
    clear HX;go_wp2_with(first|(go_at_call 59;refine(CR.out _).mono ?_;rintro e w5 ⟨rfl,hw5⟩;obtain rfl:=hw5.symm)|(go_at_call 60;fail));refine CS.out.mono ?_;rintro e w2 ⟨rfl,⟨g2,hf,hbk⟩,hb⟩;have HF:=qH<|hf.congr (hbk.uniq HBk.out);have HB2:=qH<|HBW.out.trans (hb.mono hzr);clear hf hbk hb CS;go_wp2;go_ret;exact⟨_,rfl,hzr,HF.out,HB2.out⟩
   ·have hle:sumL mn (List.range n)≤r:=by rw[<-HX.out];omega
    have HLe:=qH<|hle;have CP:=qH<|fun w h=>rPoured_any n lw 0 cp mn mx wt r w h hn HM.out ⟨hr0,hr1⟩;have hmk:=run_make_row' (P:=Tryz.prog) 67 3 (.int .i64 0) 8 Tryz.underlying67 info3row rfl .i64 .i64 n (by omega) (by omega);clear HX hle;obtain⟨ob,hob⟩:∃ob,w3.heap.size=ob:=⟨_,rfl⟩;obtain⟨w4,hw4⟩:∃w4,w3.alloc (.cells (madeCells #[.int .i64 0] n) 3)=w4:=⟨_,rfl⟩;have hb4:Below w3.heap.size w3 w4:=by rw[<-hw4];exact(Below.refl _ _).alloc (Nat.le_refl _) _
    have hs4:w4.heap.size=ob+1:=by rw[<-hw4,<-hob];simp
    have HR4:Hid (FRow w4 ob 0 n (fun _=>0)):=by
     rw[<-hw4];refine⟨by simp;omega,fun j hj=>⟨?_,?_⟩⟩;·rw[World.cell?_alloc_at _ _ _ _ hob.symm];simp[madeCells,hj,Nat.mod_one]
     ·rw[World.frozen?_alloc_at _ _ _ _ hob.symm]
    have HLW4:=qH<|HLW.out.below hb4;have HBW4:=qH<|HBW.out.trans (hb4.mono hzr);have CP4:=qH<|CP.out w4 HLW4.out;go_wp2_with(first|(go_at_call 59;refine(CR.out _).mono ?_;rintro e w5 ⟨rfl,hw5⟩;obtain rfl:=hw5.symm)|(go_at_call 61;fail));refine CP4.out.mono ?_;rintro e w5 ⟨p,q,rfl,hpq,hb5⟩;have HR5:=qH<|HR4.out.below hb5;have HLW5:=qH<|HLW4.out.below hb5;have HBW5:=qH<|HBW4.out.trans (hb5.mono (by omega));have hs5:=hb5.size;have hobB:w.heap.size≤ob:=by omega
    have hlwb:lw<ob:=by omega
    have hob5:ob<w5.heap.size:=by omega
    clear hb5 hb4 hw4 hob hs4 CP CP4 HR4 HLW4 HBW4 HLW HBW;rcases hpq with⟨rfl,rfl,hbad⟩|⟨hq0,hq1,hp0,hp1,htot⟩
    ·have HG:=qH<|none_of HM.out HSP.out HLe.out hbad;clear hbad;have G0:Hid (GSt w w5 lw ob n 0 mn mx wt g):=⟨HR5.out.congr fun j _=>by simp,HLW5.out,HBW5.out⟩;clear HR5 HLW5 HBW5;go_wp2;go_loopw[15] (fun i wr=>∃k:Nat,i=.int .i64 k∧k≤n∧Hid (GSt w wr lw ob n k mn mx wt g)) (fun i _=>n-(intOf i).toNat);case atStart=>exact⟨0,rfl,Nat.zero_le _,G0.out⟩
     case round=>
      obtain⟨k,rfl,hk,HGS⟩:=hrel;by_cases hlt:k<n
      ·have hlt':(k:Int)<(n:Int):=by omega
       have hs:=HGS.out;obtain⟨f0,f1,f2⟩:=hs.want.2 k hlt;have hgk:=HG.out k hlt;obtain⟨m1,hm1⟩:∃x,mn k=x:=⟨_,rfl⟩;obtain⟨m2,hm2⟩:∃x,mx k=x:=⟨_,rfl⟩;obtain⟨m3,hm3⟩:∃x,wt k=x:=⟨_,rfl⟩;rw[hm1,Nat.zero_add]at f0;rw[hm2,Nat.zero_add]at f1;rw[hm3,Nat.zero_add]at f2;rw[hm1,hm2,hm3]at hgk;have hzw:=hs.want.1;have hzo:=hs.len.1;have cl1:wr.cell? ⟨ob,k,none⟩=some (.int .i64 0):=by have:=(hs.len.2 k hlt).1;dsimp only at this;rw[if_neg (by omega),Nat.zero_add]at this;exact this
       have fl1:wr.frozen? ⟨ob,k,none⟩=false:=by have:=(hs.len.2 k hlt).2;rw[Nat.zero_add]at this;exact this
       by_cases hpos:0<m3
       ·rw[if_pos hpos]at hgk;have HN:=qH<|hs.set2 hlt (by omega) hobB m1 m2 hgk.symm;clear hs hgk hm1 hm2 hm3 HGS;go_wp2;go_roundw;case rel=>exact⟨k+1,by go_num,by omega,HN.out⟩
        case measure=>simp[intOf];omega
       ·rw[if_neg hpos]at hgk;have HN:=qH<|hs.set hlt (by omega) hobB m1 hgk.symm;clear hs hgk hm1 hm2 hm3 HGS;go_wp2;go_roundw;case rel=>exact⟨k+1,by go_num,by omega,HN.out⟩
        case measure=>simp[intOf];omega
      ·have hge:¬(k:Int)<(n:Int):=by omega
       obtain rfl:n=k:=by omega
       have HF:=qH<|HGS.out.len.congr fun j hj=>by rw[if_pos hj]
       have HB:=qH<|HGS.out.bel;clear HGS;go_wp2;go_ret;exact⟨_,rfl,hobB,HF.out,HB.out⟩
    ·obtain⟨S,m,base,rest,hP⟩:=parts_of HM.out HSP.out HLe.out hq0 htot;have HP:=qH<|hP;have HBb:Hid (∀j,j<n->0≤base j∧base j≤100000):=fun j hj=>by have hm:=HM.out j;have h1:=lev_bd (a:=mn j) (b:=mx j) (c:=wt j) (p:=p) (q:=q) hm.1 (by omega) hm.2.2.1 hm.2.2.2.1 hp0 (by omega) hq1;have h2:=(lev_le1 (mn j) (mx j) (wt j) p q).1;rw[<-hP.base_ j hj];refine⟨Int.ediv_nonneg h1.1 (by omega),?_⟩;have h3:=Int.ediv_le_ediv hq0 h2;rw[Int.mul_ediv_cancel _ (by omega)]at h3;omega
     have HRb:Hid (∀j,j<n->0≤rest j∧rest j<q):=fun j hj=>by rw[<-hP.rest_ j hj];exact⟨Int.emod_nonneg _ (by omega),Int.emod_lt_of_pos _ hq0⟩
     have HLv:Hid (∀j,j<n->∀w,Calls Tryz.prog 62 #[.agg #[.int .i64 (mn j),.int .i64 (mx j),.int .i64 (wt j)],.int .i64 p,.int .i64 q] w fun e w'=>e=.returned (.int .i64 (levI (mn j) (mx j) (wt j) p q))∧Below w.heap.size w w'):=fun j hj w=>by have hm:=HM.out j;exact rLevel_any (mn j) (mx j) (wt j) p q w ⟨hm.1,by omega⟩ ⟨by omega,hm.2.2.1⟩ ⟨hm.2.2.2.1,hm.2.2.2.2⟩ ⟨hp0,by omega⟩ ⟨by omega,hq1⟩
     clear hP htot;have hq':(q==0)=false:=by simp;omega
     have hqne:¬q=0:=by omega
     obtain⟨rb,hrb⟩:∃rb,w5.heap.size=rb:=⟨_,rfl⟩;obtain⟨w6,hw6⟩:∃w6,w5.alloc (.cells (madeCells #[.int .i64 0] n) 3)=w6:=⟨_,rfl⟩;have hobr:ob<rb:=by omega
     have H0:Hid (HSt w w6 lw ob rb n 0 mn mx wt base rest):=by
      have hb6:Below w5.heap.size w5 w6:=by rw[<-hw6];exact(Below.refl _ _).alloc (Nat.le_refl _) _
      refine⟨(HR5.out.below hb6).congr fun j _=>by simp,⟨by rw[<-hw6];simp;omega,fun j hj=>⟨?_,?_⟩⟩,HLW5.out.below hb6,HBW5.out.trans (hb6.mono HBW5.out.size)⟩;·rw[<-hw6,World.cell?_alloc_at _ _ _ _ hrb.symm];simp[madeCells,hj,Nat.mod_one]
      ·rw[<-hw6,World.frozen?_alloc_at _ _ _ _ hrb.symm]
     clear HR5 HLW5 HBW5;go_wp2;go_loopw[17,18] (fun l i wr=>∃(k:Nat) (x:Int),l=.int .i64 x∧i=.int .i64 k∧k≤n∧-20000000≤x∧x≤100000∧Hid (x=r-sumL base (List.range k))∧Hid (HSt w wr lw ob rb n k mn mx wt base rest)) (fun _ i _=>n-(intOf i).toNat);case atStart=>exact⟨0,r,rfl,rfl,Nat.zero_le _,by omega,by omega,by simp[Hid,sumL],H0.out⟩
     case round=>
      obtain⟨k,x,rfl,rfl,hk,xl,xu,HX,HHS⟩:=hrel;by_cases hlt:k<n
      ·have hlt':(k:Int)<(n:Int):=by omega
       have hs:=HHS.out;obtain⟨f0,f1,f2⟩:=hs.want.2 k hlt;have CL:=HLv.out k hlt wr;have hbb:=HBb.out k hlt;have hrr:=HRb.out k hlt;have eb:=HP.out.base_ k hlt;have er:=HP.out.rest_ k hlt;have hm:=HM.out k;have hlb:=lev_bd (a:=mn k) (b:=mx k) (c:=wt k) (p:=p) (q:=q) hm.1 (by omega) hm.2.2.1 hm.2.2.2.1 hp0 (by omega) hq1;obtain⟨m1,hm1⟩:∃x,mn k=x:=⟨_,rfl⟩;obtain⟨m2,hm2⟩:∃x,mx k=x:=⟨_,rfl⟩;obtain⟨m3,hm3⟩:∃x,wt k=x:=⟨_,rfl⟩;obtain⟨bs,hbs⟩:∃x,base k=x:=⟨_,rfl⟩;obtain⟨rs,hrs⟩:∃x,rest k=x:=⟨_,rfl⟩;rw[hm1,Nat.zero_add]at f0;rw[hm2,Nat.zero_add]at f1;rw[hm3,Nat.zero_add]at f2;rw[hm1,hm2,hm3]at CL eb er hlb;obtain⟨lv,hlv⟩:∃x,levI m1 m2 m3 p q=x:=⟨_,rfl⟩;rw[hlv]at CL eb er hlb;rw[hbs]at hbb eb;rw[hrs]at hrr er;have HCL:Hid _:=CL;have htd:lv.tdiv q=bs:=by rw[Int.tdiv_eq_ediv_of_nonneg hlb.1,eb]
       have htm:lv.tmod q=rs:=by rw[Int.tmod_eq_emod_of_nonneg hlb.1,er]
       obtain⟨l1,l2⟩:=hlb;obtain⟨b1,b2⟩:=hbb;obtain⟨r1,r2⟩:=hrr;have HX2:Hid (x-bs=r-sumL base (List.range (k+1))):=by show _=_;rw[List.range_succ,sumL_snoc,HX.out,hbs];omega
       have hxl2:-20000000≤x-bs:=by rw[HX2.out];have:sumL base (List.range (k+1))≤((List.range (k+1)).length:Int)*100000:=sumL_bound fun j hj=>(HBb.out j (by have:=List.mem_range.1 hj;omega)).2;rw[List.length_range]at this;omega
       have HN:Hid (∀W',Below wr.heap.size wr W'->HSt w ((W'.setCell ⟨ob,k,none⟩ (.int .i64 bs)).setCell ⟨rb,k,none⟩ (.int .i64 rs)) lw ob rb n (k+1) mn mx wt base rest):=fun W' hb=>(hs.below hb).set hlt hlwb hobr hobB bs rs hbs.symm hrs.symm;have hzo:=hs.len.1;have hzr2:=hs.res.1;have co1:wr.cell? ⟨ob,k,none⟩=some (.int .i64 0):=by have:=(hs.len.2 k hlt).1;dsimp only at this;rw[if_neg (by omega),Nat.zero_add]at this;exact this
       have fo1:wr.frozen? ⟨ob,k,none⟩=false:=by have:=(hs.len.2 k hlt).2;rw[Nat.zero_add]at this;exact this
       have cr1:wr.cell? ⟨rb,k,none⟩=some (.int .i64 0):=by have:=(hs.res.2 k hlt).1;dsimp only at this;rw[if_neg (by omega),Nat.zero_add]at this;exact this
       have fr1:wr.frozen? ⟨rb,k,none⟩=false:=by have:=(hs.res.2 k hlt).2;rw[Nat.zero_add]at this;exact this
       have hzw:=hs.want.1;clear hs CL hm hm1 hm2 hm3 hbs hrs hlv HX HHS;go_wp2_with fail;refine Calls.mono HCL.out ?_;rintro e w7 ⟨rfl,b7⟩;have co2:=(b7.cell (p:=⟨ob,k,none⟩) hzo).trans co1;have fo2:=(b7.frozen (p:=⟨ob,k,none⟩) hzo).trans fo1;have cr2:=(b7.cell (p:=⟨rb,k,none⟩) hzr2).trans cr1;have fr2:=(b7.frozen (p:=⟨rb,k,none⟩) hzr2).trans fr1;have HN7:=HN.out w7 b7;have HN8:Hid _:=HN7;clear b7 HN HN7 HCL co1 fo1 cr1 fr1;go_wp2;go_roundw;case rel=>exact⟨k+1,x-bs,rfl,by go_num,by omega,by omega,by omega,HX2.out,HN8.out⟩
       case measure=>simp[intOf];omega
      ·have hge:¬(k:Int)<(n:Int):=by omega
       obtain rfl:n=k:=by omega
       have hxm:x=(m:Int):=by rw[HX.out];exact HP.out.left
       have K0:Hid (KSt w wr ob rb n base rest S 0):=⟨HHS.out.len.congr fun j hj=>by simp[hj],HHS.out.res.congr fun j hj=>by simp[hj],HHS.out.bel⟩;clear HX HHS;subst hxm;go_wp2;go_loopw[17] (fun l wr=>∃t:Nat,l=.int .i64 ((m:Int)-t)∧t≤m∧Hid (KSt w wr ob rb n base rest S t)) (fun l _=>(intOf l).toNat);case atStart=>exact⟨0,by simp,Nat.zero_le _,K0.out⟩
       case round=>
        obtain⟨t,rfl,ht,HK⟩:=hrel;by_cases hlt:t<m
        ·have hpos:(0:Int)<(m:Int)-t:=by omega
         have htS:=Nat.lt_of_lt_of_le hlt HP.out.le;obtain⟨i,hi⟩:∃i,S[t]?.getD 0=i:=⟨_,rfl⟩;have hin:=HP.out.lt i (by rw[<-hi];exact atN_mem htS);have hbest:=HP.out.best t hlt;rw[hi]at hbest;obtain⟨f,hf⟩:∃f:Nat->Int,(fun j=>if j∈S.take t then-1 else rest j)=f:=⟨_,rfl⟩;rw[hf]at hbest;have HBest:=qH<|hbest;have hres:FRow wr rb 0 n f:=by have:=HK.out.res;rw[hf]at this;exact this
         have HRes:=qH<|hres;have HFb:Hid (∀j,j<n->-1≤f j∧f j≤20000000):=fun j hj=>by have:=HRb.out j hj;rw[<-hf];dsimp only;split<;>omega
         have hzrb:=hres.1;have HKn:Hid (∀W',Below wr.heap.size wr W'->KSt w ((W'.setCell ⟨ob,i,none⟩ (.int .i64 (base i+1))).setCell ⟨rb,i,none⟩ (.int .i64 (-1))) ob rb n base rest S (t+1)):=fun W' hb=>(HK.out.below hb).next HP.out.nodup htS i hi hin hobr hobB;have hnot:i∉S.take t:=by rw[<-hi];exact atN_notin HP.out.nodup htS
         have hco:=HK.out.len.2 i hin;dsimp only at hco;rw[if_neg hnot,Nat.zero_add,Int.add_zero]at hco;have hzo:=HK.out.len.1;have hbb:=HBb.out i hin;obtain⟨bs,hbs⟩:∃x,base i=x:=⟨_,rfl⟩;rw[hbs]at hco hbb HKn;obtain⟨co1,fo1⟩:=hco;obtain⟨b1,b2⟩:=hbb;have hin':(i:Int)<(n:Int):=by omega
         have hpos2:¬(m:Int)≤t:=by omega
         clear hbest hf hres hnot hbs HK;obtain⟨w8,rfl⟩:∃w8,w8=wr:=⟨_,rfl⟩;go_wp2;go_loopw[20,21] (fun b j wq=>∃bb ii:Nat,b=.int .i64 bb∧j=.int .i64 ii∧1≤ii∧ii≤n∧bb<n∧Hid (Best ii f bb)∧Below w8.heap.size w8 wq) (fun _ j _=>n-(intOf j).toNat);case atStart=>exact⟨0,1,rfl,rfl,by omega,by omega,by omega,best_one f,Below.refl _ _⟩
         case round=>
          obtain⟨bb,ii,rfl,rfl,hi1,hi2,hbn,HBt,hbq⟩:=hrel;by_cases hlt2:ii<n
          ·have hl1:(ii:Int)<(n:Int):=by omega
           have hl2:(bb:Int)<(n:Int):=by omega
           have hrq:=HRes.out.below hbq;have cA:=(hrq.2 ii hlt2).1;have cB:=(hrq.2 bb hbn).1;rw[Nat.zero_add]at cA cB;obtain⟨fa,hfa⟩:∃x,f ii=x:=⟨_,rfl⟩;obtain⟨fb,hfb⟩:∃x,f bb=x:=⟨_,rfl⟩;rw[hfa]at cA;rw[hfb]at cB;have hzq:=hrq.1;by_cases hgt:fb<fa
           ·have HB2:=qH<|best_up HBt.out (by rw[hfa,hfb];exact hgt);clear hrq hfa hfb HBt;go_wp2_with fail;go_quiet(fail);go_wp2;go_roundw;case rel=>exact⟨ii,ii+1,rfl,by go_num,by omega,by omega,by omega,HB2.out,below_drewN hbq _⟩
            case measure=>simp[intOf];omega
           ·have HB2:=qH<|best_stay HBt.out (by rw[hfa,hfb];exact hgt);clear hrq hfa hfb HBt;go_wp2_with fail;go_quiet(fail);go_wp2;go_roundw;case rel=>exact⟨bb,ii+1,rfl,by go_num,by omega,by omega,by omega,HB2.out,below_drewN hbq _⟩
            case measure=>simp[intOf];omega
          ·have hl1:¬(ii:Int)<(n:Int):=by omega
           have hii:ii=n:=by omega
           have hbi:bb=i:=by have h1:=HBt.out;rw[hii]at h1;exact h1.uniq HBest.out
           subst hbi;have co2:=(hbq.cell (p:=⟨ob,bb,none⟩) hzo).trans co1;have fo2:=(hbq.frozen (p:=⟨ob,bb,none⟩) hzo).trans fo1;have hrq:=HRes.out.below hbq;have hcr:=hrq.2 bb hin;rw[Nat.zero_add]at hcr;obtain⟨fa,hfa⟩:∃x,f bb=x:=⟨_,rfl⟩;rw[hfa]at hcr;obtain⟨cr2,fr2⟩:=hcr;have HN:Hid _:=HKn.out wr hbq;clear hrq hfa HBt hii co1 fo1 hbq HKn;go_wp2;go_roundw;case rel=>exact⟨t+1,by go_num,by omega,HN.out⟩
           case measure=>simp[intOf];omega
        ·obtain rfl:m=t:=by omega
         have hz0:¬(0:Int)<(m:Int)-m:=by omega
         have HF:=qH<|HK.out.len.congr fun j hj=>(HP.out.is j hj).symm;have HB:=qH<|HK.out.bel;clear HK;go_wp2;go_ret;exact⟨_,rfl,hobB,HF.out,HB.out⟩
end
section
open Go.RowKit Go.Sort
theorem rOpen_nil(p q:Int)(w:World):
 Calls Tryz.prog 93 #[.slice none 0 0,.int .i64 p,.int .i64 q] w fun e w'=>e=.returned (.tuple #[.int .i64 0,.int .i64 0])∧w'=w:=by
 go_enter Tryz.func93,Tryz.ntmps93;go_wp2;go_loop[8,9,10] (fun s t i=>s=.int .i64 0∧t=.int .i64 0∧i=.int .i64 0) (fun _ _ _=>0);case atStart=>exact⟨rfl,rfl,rfl⟩
 case round=>obtain⟨rfl,rfl,rfl⟩:=hrel;go_wp2;go_ret2;exact⟨rfl,rfl⟩
theorem rPoured_nil(r:Int)(w:World):
 Calls Tryz.prog 61 #[.slice none 0 0,.int .i64 r] w fun e w'=>e=.returned (.tuple #[.int .i64 0,.int .i64 0])∧w'=w:=by
 have CO:=qH<|rOpen_nil 0 1;go_enter Tryz.func61,Tryz.ntmps61;go_wp2;go_loop[6] (fun i=>i=.int .i64 (-1)∨i=.int .i64 0) (fun i=>(0-intOf i).toNat);case atStart=>exact .inl rfl
 case round=>
  rcases hrel with rfl|rfl
  ·go_wp2_with(go_at_call 93;refine(CO.out _).mono ?_;rintro e w5 ⟨rfl,hw5⟩;obtain rfl:=hw5.symm);go_round;case rel=>exact .inr rfl
   case measure=>simp[intOf]
  ·go_wp2;go_ret2;exact⟨rfl,rfl⟩
theorem rSplit_zero(p:Option Addr)(cap:Nat)(room gap:Int)(w:World):
 Calls Tryz.prog 33 #[.int .i64 room,.int .i64 gap,.slice p 0 cap] w fun e w'=>∃q,e=.returned (.slice q 0 0)∧Below w.heap.size w w':=by
 have CR:Hid (∀w,Calls Tryz.prog 59 #[.int .i64 room,.int .i64 gap,.int .i64 0] w fun e w'=>e=.returned (.int .i64 (cl room))∧w'=w):=fun w=>rRoom_one room gap 0 (by omega) w;obtain⟨cr,hcr⟩:∃x,cl room=x:=⟨_,rfl⟩;have b:=cl_bd room;rw[hcr]at CR b;have b1:=b.1;have b2:¬cr<0:=by omega
 clear hcr b;have CP:=qH<|rPoured_nil cr;have hmk:∀u:World,(Instr.makeSlice 67 (.int .i64 0) (.int .i64 0)).run Tryz.prog u=.ok (.slice (some ⟨u.heap.size,0,none⟩) 0 0) (u.alloc (.cells (madeCells #[.int .i64 0] 0) 3)):=fun u=>run_make_row' (P:=Tryz.prog) 67 3 (.int .i64 0) 8 Tryz.underlying67 info3row rfl .i64 .i64 0 (by omega) (by omega) u;go_enter Tryz.func33,Tryz.ntmps33;go_wp2;go_loop[7,8,9] (fun v s i=>v=.slice none 0 0∧s=.int .i64 0∧i=.int .i64 0) (fun _ _ _=>0);case atStart=>exact⟨rfl,rfl,rfl⟩
 case round=>
  obtain⟨rfl,rfl,rfl⟩:=hrel;go_wp2_with(first|(go_at_call 59;refine(CR.out _).mono ?_;rintro e w5 ⟨rfl,hw5⟩;obtain rfl:=hw5.symm)|(go_at_call 61;refine(CP.out _).mono ?_;rintro e w5 ⟨rfl,hw5⟩;obtain rfl:=hw5.symm));go_loop[15] (fun i=>i=.int .i64 0) (fun _=>0);case atStart=>exact rfl
  case round=>obtain rfl:=hrel;go_wp2;go_ret;exact⟨⟨_,rfl⟩,(Below.refl _ _).alloc (Nat.le_refl _) _⟩
end
end Go.Proofs.YtnponhbgicbkcaaGreatDoor
