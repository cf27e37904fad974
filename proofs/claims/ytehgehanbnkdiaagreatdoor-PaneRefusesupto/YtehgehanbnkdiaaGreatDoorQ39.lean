import Derived.Test.YtehgehanbnkdiaaGreatDoorQ00
import Derived.RangeFuncNested
import Derived.RangeFuncBound
import Derived.Shelf.Abstract
import Derived.Shelf.RegionOpen
import Derived.WalkKit
import Derived.OwnWalkIn
import Derived.LoopNIn
import Derived.LoopIn
import Derived.Sort.CutIn
import Derived.Test.YtehgehanbnkdiaaGreatDoorQ35
import Derived.Test.YtehgehanbnkdiaaGreatDoorQ01
set_option linter.all false
set_option maxRecDepth 100000
set_option maxHeartbeats 16000000
namespace Go.Proofs.YtehgehanbnkdiaaGreatDoor
open Go.RowKit Go.Proofs.Tryz
section
open Go.Shelf
attribute[local go_sem] Oper.semAt_some
def gK(Bw:Nat)(W W':AT):Prop:=(∀(k:Nat) (c:Array Fd) (fz:Nat×Nat),W.heap[k]?=some (.cells c 337 fz)->W'.heap[k]?=some (.cells c 337 fz))/\W'.heap[Bw]?=W.heap[Bw]?
def gK.trans{a}{A B C}(h:gK a A B)(k:gK a B C):gK a A C:=⟨λi c b e=>k.1 i c b (h.1 i c b e),k.2.trans h.2⟩
def keepL_row{f}{W c}(h:gK f W c){B n}{v}{e}(d:W.ownsRow B 337 2 v n e):c.ownsRow B 337 2 v n e:=by refine⟨d.1,d.2.imp id ?_⟩;rintro⟨g,b,a,i,j,k,l⟩;exact⟨g,b,a,i,j,h.1 g a _ k,l⟩
def ja{W a}(h:Bq W a):W.grownBy a none:=⟨h.os,h.tape,h.output,h.size,λk b _=>h.block k b⟩
def wJ{w}{B}{v}{l}(h:w.ownsRow B 337 2 v l.length (du l)):lr w v l:=(uN h).clsC
def yX{w w'}{B n}{e}{v}{d}(h:w.ownsRow B e 2 v n d)(k:Bq w w'):w'.ownsRow B e 2 v n d:=by refine⟨h.1,h.2.imp id ?_⟩;rintro⟨g,a,b,f,i,c,j⟩;exact⟨g,a,b,f,i,(k.block g (aj.1 c).1).trans c,j⟩
theorem Gd{w}{b off c a n}{l:List (List UInt8×Int)}(m:a+n<=l.length)(d:l.length<=c)(g:c<=maxLen)(h:b<w.heap.size)(i:∀j (k:j<l.length),w.cell? (aq b (off+j*2))=some (.string ⟨(l[j]).1.toArray⟩)/\w.cell? (aq b (off+j*2+1))=some (Iq (l[j]).2)):
 lr w (.slice (if c=a then some (aq b off)else some (aq b (off+a*2))) n (c-a)) ((l.drop a).take n):=by
 have f:((l.drop a).take n).length=n:=by rw[cL,dq];omega
 refine⟨_,_,by rw[f],by rw[f];omega,dg,?_⟩;by_cases e:c=a;.grind
 .right;rw[if_neg e];grind
def RG(x:Ln):Array Fd:=#[.agg #[.string ⟨x.T.toArray⟩,Iq x.W,Iq x.F,Iq x.N,Iq x.E]]
def Gs(n:Nat)(hn:3<=n)(k0 H Bs:Nat)(s:BY)(w:Int)(l:List (List UInt8×Int))(hl:ba (az s.data.toList)=l)(hs:s.size<=68719476736)(hw0:-9223372036854775808<=w)(zV:w<=9223372036854775807)(J Jx:List Ln->AT->Prop)(W:AT)(hJ:AbidesFrom W.heap.size J)(hY:∀i x W1,J i W1->i.length<l.length+1->YieldAt Fence.wide (n-1) prog k0 (RG x) W1 λe W'=>
      (e=Rw (.bool true)/\J (i++[x]) W'/\gK H W1 W')\/(e=Rw (.bool false)/\Jx (i++[x]) W'))(ht:∀W',Bq W W'->aY W')(zt:W.heap[H]?=some (.cells #[Iq w] 3 (0,0)))(zJ:W.heap[Bs]?=some (.cells #[.string s] 9 (0,0)))(h0:J [] W):
    CallsIn Fence.wide n prog 322 #[.func (.yield k0) #[] #[],Pq H,Pq Bs] W λe W'=>(∃v,e=Rw v)/\
      ((∃ys,ys=bJ l w/\J ys W')\/(∃i,True/\Jx i W')):=by
  have zU:s.data.toList.length=s.size:=by rw[eK];rfl
  have hR:=bC s.data.toList;have hC:=ci (az s.data.toList);have zv:=eV (az s.data.toList);have zD:=o_ (az s.data.toList);rw[zU]at hR;rw[hl]at hC zv zD;have cw:W.cell? (aq H 0)=some (Iq w):=by simp[World.cell?,zt]
  have cs:W.cell? (aq Bs 0)=some (.string s):=by simp[World.cell?,zJ]
  have zk:=qH<|zt;have zF:=qH<|zv;have WQ:=qH<|zD;have HL:=qH<|hl;have HT:=qH<|ht;have HJ:=qH<|hJ;have HY:=qH<|hY;clear zt zJ zv zD hl ht hJ hY zU;refine callsIn_of_wp func322 rfl trivial ?_ rfl;simp only[ntmps322,iS,cV,eI,Nat.reduceAdd,Nat.reduceSub,nX,nY,nZ,n_,od,kM];by_cases zT:w<1
  . have HE:Hid (bJ l w=[]):=qH<|by rw[bJ,if_pos zT]
    gi_wp2;refine bodyPost_ret (results_none rfl _ _ _) rfl ?_;exact⟨⟨_,rfl⟩,.inl ⟨[],HE.symm,h0⟩⟩
  have HE:Hid (bJ l w=dZ l w 0):=qH<|by rw[bJ,if_neg zT]
  have L:1<=w:=dg;have G:Hid (Cw 236 #[.string s] W λe w'=>∃v,e=Rw v/\w'.ownsRow W.heap.size 337 2 v l.length (du l)/\Bq W w'):=by have :=dR s W (HT W Ok) dg;rw[HL.out]at this;exact this
  gi_wp2_with fail;refine⟨trivial,λ_=>dg,(callsIn_wide.2 G).mono ?_⟩;rintro e w1 ⟨v1,rfl,o1,b1⟩;have zI:=qH<|o1;have j1:=HJ.out [] W w1 none h0 (ja b1) (λr e=>by cases e);have zL:=(aj.1 zk).1;have zj:=qH<|(b1.block H zL).trans zk;have Y4:=b1.size;obtain⟨a1,q,rfl,Ya,YB,Yi⟩:=wJ o1;clear G zk cw cs o1 Yi;gi_wp2;gi_loopw[5] (λp wr=>∃(a:Nat) (i:List Ln),p=Iq a/\a<=l.length/\Hid (i++dZ l w a=dZ l w 0)/\Hid (wr.ownsRow W.heap.size 337 2 (.slice a1 l.length q) l.length (du l))/\Hid (wr.heap[H]?=some (.cells #[Iq w] 3 (0,0)))/\J i wr) (λp _=>l.length-(intOf p).toNat);.exact⟨0,[],rfl,LT,rfl,zI,zj,j1⟩
  obtain⟨a,i,rfl,ha,A,zg,zw,zN⟩:=hrel;have cw:wr.cell? (aq H 0)=some (Iq w):=by have :=zw.out;simp[World.cell?,this]
  have U:=(aj.1 zw).1;clear j1 zI zj b1;have Yd:(l=[]/\a1=none/\q=0)\/∃b,a1=some (aq b 0):=by
    rcases zg.2 with⟨S,e2⟩|⟨g,cp,Bd,S,_⟩;.grind
    .grind
  have XX:(a:Int)<=(l.length:Int):=dg;have hlc:(l.length:Int)<=(q:Int):=dg;rcases Yd with⟨S,rfl,rfl⟩|⟨b,rfl⟩
  . have TD:prog.follows .mixedOrders=true:=pt;have Yr:l.length=0:=by rw[S];rfl
    obtain rfl:a=0:=dg;have zu:eq l w 0=⟨[],0,0,0,3⟩:=by rw[S];have K:¬w<0:=dg;simp[eq,aR,dk,aI,ak,K]
    have I:=qH<|zu;have HF:Hid (bJ l w=i++[eq l w 0]):=qH<|by rw[HE.out,<-A.out,k5 LT (by rw[zu])]
    have zC:i.length<l.length+1:=by have :=congrArg List.length A;have h2:=(fe l w 0 LT).1;rw[aN]at this;omega
    have Y:∀w',lr w' (.slice none 0 0) []:=λw'=>⟨none,0,rfl,LE,LT,.inl rfl⟩;have M:Hid (Cw 323 #[.slice none 0 0,Iq w] wr.drew λe w'=>e=Rw (.tuple #[Iq 0,Iq 0,Iq 3])/\Bq wr w'):=by refine Ut (kq [] _ w wr.drew (Y _) At At L zV) ?_;rintro m O;exact⟨by simp[aR,dk],((ac wr.heap.size wr).drew).trans O⟩
    have F:Hid (∀w',Cw 324 #[.slice none 0 0,Iq w] w' λe m=>e=Rw (.agg #[.string ⟨#[]⟩,Iq 0,Iq 0,Iq 0,Iq 0])/\Bq w' m):=by intro w';refine Ut (pS [] _ w w' (Y w').cls At At (by simp[aI]) L (λh=>by grind[ak])) ?_;rintro m O;refine⟨?_,O⟩;have K:¬w<0:=dg;simp[nx,Io,aI,ak,K]
    rw[Yr];clear zu Y;gi_wp2_with fail;gi_cut[6,7,8]from 14 (λx y z wx=>x=Iq 0/\y=Iq 0/\z=Iq 3/\Bq wr wx)
    . gi_region_with_o(refine⟨trivial,λ_=>dg,(callsIn_wide.2 M).mono ?_⟩;rintro e C ⟨rfl,P⟩);all_goals(gi_wp2_with fail)
      all_goals(gi_meet)
      grind
    obtain⟨rfl,rfl,rfl,bx⟩:=hcut;have o:=bx.size;have zr:=(bx.cell (p:=(aq H 0)) U).trans cw;have zK:H<wc.heap.size:=dg;have zM:¬H=wc.heap.size:=dg;clear cw M;gi_wp2_with fail;gi_cut[9]from 14 (λp wx=>∃B,p=Pq B/\wr.heap.size<=B/\wx.heap[B]?=some (.cells #[.string ⟨#[]⟩,Iq 0,Iq 0,Iq 0,Iq 0] 341 (0,0))/\Bq wr wx)
    . have D:Hid (∀w',(w'=wc.drew\/w'=(wc.alloc (.cells #[.string ⟨#[]⟩,Iq 0,Iq 0,Iq 0,Iq 0] 341)).drew)->Cw 324 #[.slice none 0 0,Iq w] w' λe m=>e=Rw (.agg #[.string ⟨#[]⟩,Iq 0,Iq 0,Iq 0,Iq 0])/\Bq wr m/\
          (w'=(wc.alloc (.cells #[.string ⟨#[]⟩,Iq 0,Iq 0,Iq 0,Iq 0] 341)).drew->wc.heap.size<m.heap.size/\m.heap[wc.heap.size]?=some (.cells #[.string ⟨#[]⟩,Iq 0,Iq 0,Iq 0,Iq 0] 341 (0,0)))):=by
        intro w' zE;have t:Bq wr w':=by
          rcases zE with rfl|rfl;.exact bx.drew
          .exact(bx.alloc o _).drew
        refine Ut (F w') ?_;rintro m O;refine⟨rfl,t.trans (O.mono t.size),?_⟩;rintro rfl;have u:wc.heap.size<(wc.alloc (.cells #[.string ⟨#[]⟩,Iq 0,Iq 0,Iq 0,Iq 0] 341)).drew.heap.size:=by show wc.heap.size<(wc.alloc _).heap.size;rw[ai];omega
        exact⟨zz006 u O.size,(O.block _ u).trans (heap_alloc_new wc _)⟩
      have zm:Hid (Cw 324 #[.slice none 0 0,Iq w] wc.drew λe m=>e=Rw (.agg #[.string ⟨#[]⟩,Iq 0,Iq 0,Iq 0,Iq 0])/\Bq wr m):=by refine(D _ (Or.inl rfl)).mono ?_;rintro e m ⟨K,h2,_⟩;exact⟨K,h2⟩
      have zn:Hid (Cw 324 #[.slice none 0 0,Iq w] (wc.alloc (.cells #[.string ⟨#[]⟩,Iq 0,Iq 0,Iq 0,Iq 0] 341)).drew λe m=>e=Rw (.agg #[.string ⟨#[]⟩,Iq 0,Iq 0,Iq 0,Iq 0])/\Bq wr m/\wc.heap.size<m.heap.size/\m.heap[wc.heap.size]?=some (.cells #[.string ⟨#[]⟩,Iq 0,Iq 0,Iq 0,Iq 0] 341 (0,0))):=by refine(D _ (Or.inr rfl)).mono ?_;rintro e m ⟨K,h2,h3⟩;exact⟨K,h2,(h3 rfl).1,(h3 rfl).2⟩
      clear F D;gi_region_with_o(refine⟨trivial,λ_=>dg,?_⟩;(first|(refine(callsIn_wide.2 zm).mono ?_;rintro e C ⟨rfl,P⟩)|(refine(callsIn_wide.2 zn).mono ?_;rintro e C ⟨rfl,P,TZ,k⟩;have q0:C.cell? (aq wc.heap.size 0)=some (.string ⟨#[]⟩):=(by simp[World.cell?,k]);have q1:C.cell? (aq wc.heap.size 1)=some (Iq 0):=(by simp[World.cell?,k]);have q2:C.cell? (aq wc.heap.size 2)=some (Iq 0):=(by simp[World.cell?,k]);have q3:C.cell? (aq wc.heap.size 3)=some (Iq 0):=(by simp[World.cell?,k]);have q4:C.cell? (aq wc.heap.size 4)=some (Iq 0):=(by simp[World.cell?,k]);have fr:∀j,C.frozen? (aq wc.heap.size j)=false:=(λj=>frozen_of_row _ _ _ _ _ k);have zq:=qH<|k;clear k)));all_goals(gi_wp2_with fail)
      all_goals(gi_meet)
      all_goals(first
        |exact⟨_,rfl,P.size,heap_alloc_new _ _,P.alloc P.size _⟩
        |exact⟨_,rfl,o,MP zq,((((P.setCell (p:=(aq wc.heap.size 0)) o _).setCell (p:=(aq wc.heap.size 1)) o _).setCell (p:=(aq wc.heap.size 2)) o _).setCell (p:=(aq wc.heap.size 3)) o _).setCell (p:=(aq wc.heap.size 4)) o _⟩)
    obtain⟨B,rfl,hB,f,R⟩:=hcut;have Zc:=R.size;have q0:wc.cell? (aq B 0)=some (.string ⟨#[]⟩):=by simp[World.cell?,f]
    have q1:wc.cell? (aq B 1)=some (Iq 0):=by simp[World.cell?,f]
    have q2:wc.cell? (aq B 2)=some (Iq 0):=by simp[World.cell?,f]
    have q3:wc.cell? (aq B 3)=some (Iq 0):=by simp[World.cell?,f]
    have q4:wc.cell? (aq B 4)=some (Iq 0):=by simp[World.cell?,f]
    have fr:∀j,wc.frozen? (aq B j)=false:=λj=>frozen_of_row _ _ _ _ _ f;have bz:Bq wr ((wc.setCell (aq B 2) (Iq 0)).setCell (aq B 4) (Iq 3)):=(R.setCell (p:=(aq B 2)) hB _).setCell (p:=(aq B 4)) hB _;have jz:=HJ i wr _ none zN (ja bz) (λr e=>by cases e);obtain⟨fn,zY,assign,body,hy,hR⟩:=HY i (eq l w 0) _ jz zC;rw[I.out]at hy;change(Instr.yield k0 #[.agg #[.string ⟨#[]⟩,Iq 0,Iq 0,Iq 0,Iq 3]]).run prog _=_ at hy;have HR:=qH<|hR;clear f zr hR jz;gi_wp2;refine⟨λ_=>dg,HR.mono ?_⟩;clear HR hy;rintro e W3 (⟨rfl,zh,zA⟩|⟨rfl,X⟩);.gi_wp2;refine bodyPost_ret (results_none rfl _ _ _) rfl ?_;exact⟨⟨_,rfl⟩,.inl ⟨_,HF.symm,zh⟩⟩
    .gi_wp2;refine bodyPost_ret (results_none rfl _ _ _) rfl ?_;exact⟨⟨_,rfl⟩,.inr ⟨_,trivial,X⟩⟩
  . have TD:prog.follows .mixedOrders=true:=pt;have zQ:=rP (l.drop a) w;rw[dq]at zQ;have HX:Hid (dZ l w a=if(eq l w a).E=3 then[eq l w a]else eq l w a::dZ l w (E9 l w a)):=by
      show _=_;by_cases h:(eq l w a).E=3;.grind[k5]
      .grind[ny]
    have zZ:=qH<|nxt_lt l w a;have zG:Hid (E9 l w a=a+(aR (l.drop a) w).n+(aR (l.drop a) w).d):=rfl;have hlA:=(fe l w a ha).1;have Ys:=(fe l w 0 LT).2;have hcl:∀w',Bq wr w'->∀n,a+n<=l.length->lr w' (.slice (if q=a then some (aq b 0)else some (aq b (a*2))) n (q-a)) ((l.drop a).take n):=by
      intro w' hb n hn;obtain⟨a',cap',S,_,_,hh⟩:=(wJ zg).below hb;cases S;rcases hh with hh|⟨b',ZU,e2,Sn,Ve⟩
      . subst hh;have e0:n=0:=by simp at hn;omega
        subst e0;exact⟨_,_,rfl,At,dg,.inl At⟩
      .cases e2;grind[Gd]
    have zl:=qH<|hcl;have hFL:Cw 323 #[.slice (if q=a then some (aq b 0)else some (aq b (a*2))) (l.length-a) (q-a),Iq w] wr.drew λe w'=>e=Rw (.tuple #[Iq (aR (l.drop a) w).n,Iq (aR (l.drop a) w).d,Iq (aR (l.drop a) w).e])/\Bq wr w':=by have K:=hcl wr.drew (Ok.drew) (l.length-a) dg;rw[im rn]at K;refine Ut (kq (l.drop a) _ w wr.drew K (λc hc=>zF c (kN hc)) rn L zV) ?_;rintro m O;exact⟨rfl,((ac wr.heap.size wr).drew).trans O⟩
    have F:Hid (∀w' v,uk w' v ((l.drop a).take (aR (l.drop a) w).n)->Cw 324 #[v,Iq w] w' λe m=>e=Rw (nx ((l.drop a).take (aR (l.drop a) w).n) w)/\Bq w' m):=by
      intro w' v hv;have zO:∀c∈(l.drop a).take (aR (l.drop a) w).n,0<=c.2/\c.2<=2:=λc hc=>zF c (kN (nU hc));have hl2:((l.drop a).take (aR (l.drop a) w).n).length<=l.length:=by rw[cL,dq];omega
      have Vp:=mJ _ (λc hc=>WQ c (kN (nU hc)):∀c∈(l.drop a).take (aR (l.drop a) w).n,c.1.length<=20);have Y5:=(cU _ zO ((l.drop a).take (aR (l.drop a) w).n).length).2;rw[jB]at Y5;exact pS _ v w w' hv zO dg dg L (λ_=>dg)
    have zo:Hid (∃(T:zzf) (V:Int) (N:Nat),nx ((l.drop a).take (aR (l.drop a) w).n) w=.agg #[.string ⟨T.toArray⟩,Iq V,Iq 0,Iq N,Iq 0]/\eq l w a=⟨T,V,a,N,(aR (l.drop a) w).e⟩):=by
      by_cases zX:w<ak ((l.drop a).take (aR (l.drop a) w).n);.exact⟨List.replicate w.toNat 32,w,1,by rw[nx,if_pos zX];rfl,by grind[eq]⟩
      .exact⟨aI ((l.drop a).take (aR (l.drop a) w).n),ak ((l.drop a).take (aR (l.drop a) w).n),((l.drop a).take (aR (l.drop a) w).n).length,by rw[nx,if_neg zX];rfl,by grind[eq]⟩
    obtain⟨Q,Z⟩:=af ((aR (l.drop a) w).n);obtain⟨d1,zx⟩:=af ((aR (l.drop a) w).d);obtain⟨S,zy⟩:=af ((aR (l.drop a) w).e);rw[Z,zx,zy]at hFL;rw[Z]at F;rw[Z,zy]at zo;rw[Z,zx]at zG zQ;have M:=qH<|hFL;obtain⟨pp,YV⟩:=af (if q=a then some ((aq b 0):Addr)else some (aq b (a*2)));rw[YV]at M zl;clear hFL hcl Z zx zy;gi_wp2_with fail;gi_cut[6,7,8]from 14 (λx y z wx=>x=Iq Q/\y=Iq d1/\z=Iq S/\Bq wr wx)
    . gi_region_with_o(refine⟨trivial,λ_=>dg,(callsIn_wide.2 M).mono ?_⟩;rintro e C ⟨rfl,P⟩);all_goals(gi_wp2_with fail)
      all_goals(gi_meet)
      grind
    obtain⟨rfl,rfl,rfl,bx⟩:=hcut;have o:=bx.size;have zr:=(bx.cell (p:=(aq H 0)) U).trans cw;have zK:H<wc.heap.size:=dg;have zM:¬H=wc.heap.size:=dg;clear cw M;obtain⟨T,V,N,zS,zR⟩:=zo.out;rw[zS]at F;have I:=qH<|zR;have hwr:IntKind.i64.wrap ((a:Int)+(Q:Int))=(a:Int)+(Q:Int):=by exact IntWalk.i64_in _ ⟨dg,dg⟩
    have TL:(0:Int)<=(a:Int)+(Q:Int):=dg;have VC:(a:Int)+(Q:Int)<=(q:Int):=dg;have hq3:((a:Int)+(Q:Int)).toNat=a+Q:=dg;clear zo zS zR;gi_wp2_with fail;gi_cut[9]from 14 (λp wx=>∃B,p=Pq B/\wr.heap.size<=B/\wx.heap[B]?=some (.cells #[.string ⟨T.toArray⟩,Iq V,Iq 0,Iq N,Iq 0] 341 (0,0))/\Bq wr wx)
    . have D:Hid (∀w',(w'=wc.drew\/w'=(wc.alloc (.cells #[.string ⟨#[]⟩,Iq 0,Iq 0,Iq 0,Iq 0] 341)).drew)->Cw 324 #[.slice pp Q (q-a),Iq w] w' λe m=>e=Rw (.agg #[.string ⟨T.toArray⟩,Iq V,Iq 0,Iq N,Iq 0])/\Bq wr m/\
          (w'=(wc.alloc (.cells #[.string ⟨#[]⟩,Iq 0,Iq 0,Iq 0,Iq 0] 341)).drew->wc.heap.size<m.heap.size/\m.heap[wc.heap.size]?=some (.cells #[.string ⟨#[]⟩,Iq 0,Iq 0,Iq 0,Iq 0] 341 (0,0)))):=by
        intro w' zE;have t:Bq wr w':=by
          rcases zE with rfl|rfl;.exact bx.drew
          .exact(bx.alloc o _).drew
        refine Ut (F w' _ (zl w' t Q dg).cls) ?_;rintro m O;refine⟨rfl,t.trans (O.mono t.size),?_⟩;rintro rfl;have u:wc.heap.size<(wc.alloc (.cells #[.string ⟨#[]⟩,Iq 0,Iq 0,Iq 0,Iq 0] 341)).drew.heap.size:=by show wc.heap.size<(wc.alloc _).heap.size;rw[ai];omega
        exact⟨zz006 u O.size,(O.block _ u).trans (heap_alloc_new wc _)⟩
      have zm:Hid (Cw 324 #[.slice pp Q (q-a),Iq w] wc.drew λe m=>e=Rw (.agg #[.string ⟨T.toArray⟩,Iq V,Iq 0,Iq N,Iq 0])/\Bq wr m):=by refine(D _ (Or.inl rfl)).mono ?_;rintro e m ⟨K,h2,_⟩;exact⟨K,h2⟩
      have zn:Hid (Cw 324 #[.slice pp Q (q-a),Iq w] (wc.alloc (.cells #[.string ⟨#[]⟩,Iq 0,Iq 0,Iq 0,Iq 0] 341)).drew λe m=>e=Rw (.agg #[.string ⟨T.toArray⟩,Iq V,Iq 0,Iq N,Iq 0])/\Bq wr m/\wc.heap.size<m.heap.size/\m.heap[wc.heap.size]?=some (.cells #[.string ⟨#[]⟩,Iq 0,Iq 0,Iq 0,Iq 0] 341 (0,0))):=by refine(D _ (Or.inr rfl)).mono ?_;rintro e m ⟨K,h2,h3⟩;exact⟨K,h2,(h3 rfl).1,(h3 rfl).2⟩
      clear F zl D;gi_region_with_o(refine⟨trivial,λ_=>dg,?_⟩;(first|(refine(callsIn_wide.2 zm).mono ?_;rintro e C ⟨rfl,P⟩)|(refine(callsIn_wide.2 zn).mono ?_;rintro e C ⟨rfl,P,TZ,k⟩;have q0:C.cell? (aq wc.heap.size 0)=some (.string ⟨#[]⟩):=(by simp[World.cell?,k]);have q1:C.cell? (aq wc.heap.size 1)=some (Iq 0):=(by simp[World.cell?,k]);have q2:C.cell? (aq wc.heap.size 2)=some (Iq 0):=(by simp[World.cell?,k]);have q3:C.cell? (aq wc.heap.size 3)=some (Iq 0):=(by simp[World.cell?,k]);have q4:C.cell? (aq wc.heap.size 4)=some (Iq 0):=(by simp[World.cell?,k]);have fr:∀j,C.frozen? (aq wc.heap.size j)=false:=(λj=>frozen_of_row _ _ _ _ _ k);have zq:=qH<|k;clear k)));all_goals(gi_wp2_with fail)
      all_goals(gi_meet)
      all_goals(first
        |exact⟨_,rfl,P.size,heap_alloc_new _ _,P.alloc P.size _⟩
        |exact⟨_,rfl,o,MP zq,((((P.setCell (p:=(aq wc.heap.size 0)) o _).setCell (p:=(aq wc.heap.size 1)) o _).setCell (p:=(aq wc.heap.size 2)) o _).setCell (p:=(aq wc.heap.size 3)) o _).setCell (p:=(aq wc.heap.size 4)) o _⟩)
    obtain⟨B,rfl,hB,f,R⟩:=hcut;have Zc:=R.size;have q0:wc.cell? (aq B 0)=some (.string ⟨T.toArray⟩):=by simp[World.cell?,f]
    have q1:wc.cell? (aq B 1)=some (Iq V):=by simp[World.cell?,f]
    have q2:wc.cell? (aq B 2)=some (Iq 0):=by simp[World.cell?,f]
    have q3:wc.cell? (aq B 3)=some (Iq N):=by simp[World.cell?,f]
    have q4:wc.cell? (aq B 4)=some (Iq 0):=by simp[World.cell?,f]
    have fr:∀j,wc.frozen? (aq B j)=false:=λj=>frozen_of_row _ _ _ _ _ f;have bz:Bq wr ((wc.setCell (aq B 2) (Iq a)).setCell (aq B 4) (Iq S)):=(R.setCell (p:=(aq B 2)) hB _).setCell (p:=(aq B 4)) hB _;have jz:=HJ i wr _ none zN (ja bz) (λr e=>by cases e);have zC:i.length<l.length+1:=by have :=congrArg List.length A;rw[aN]at this;omega
    obtain⟨fn,zY,assign,body,hy,hR⟩:=HY i (eq l w a) _ jz zC;rw[I.out]at hy;dsimp only[RG]at hy;have HR:=qH<|hR;clear f zr hR jz;gi_wp2;refine⟨λ_=>dg,HR.mono ?_⟩;clear HR hy;rintro e W3 (⟨rfl,zh,zA⟩|⟨rfl,X⟩)
    . have zB:=qH<|keepL_row zA (yX zg bz);have zP:=qH<|(zA.2.trans (bz.block H U)).trans zw;have hE:(eq l w a).E=S:=by rw[I.out]
      by_cases h3:S=3
      . have HF:Hid (bJ l w=i++[eq l w a]):=qH<|by rw[HE.out,<-A.out,HX.out,if_pos (by rw[hE,h3])]
        clear hE;subst h3;gi_wp2;refine bodyPost_ret (results_none rfl _ _ _) rfl ?_;exact⟨⟨_,rfl⟩,.inl ⟨_,HF.symm,zh⟩⟩
      . have ze:(eq l w a).E≠3:=by rw[hE];exact h3
        have YO:=zZ ze;have HF:Hid ((i++[eq l w a])++dZ l w (E9 l w a)=dZ l w 0):=qH<|by rw[<-A.out,HX.out,if_neg ze];simp
        have zi:=zG.out;have zH:=qH<|zi;rw[zH.out]at HF YO;clear hE ze zi;gi_wp2;go_roundw;.exact⟨a+Q+d1,i++[eq l w a],by go_num,dg,HF,zB,zP,zh⟩
        .simp[intOf];omega
    .gi_wp2;refine bodyPost_ret (results_none rfl _ _ _) rfl ?_;exact⟨⟨_,rfl⟩,.inr ⟨_,trivial,X⟩⟩
attribute[local go_sem] Oper.semAt_some
def rV{a B}(m:a<B)W l o d(n:B<=l)(h:W.heap[l]?=some o)(g:o.isCells=false)(_:o.isWalk=false):gK a W (W.putObj l d):=by have b:=grownBy_putObj' W l d;have i:=(aj.1 h).1;refine⟨λk c j e=>?_,b.block a dg (λe=>rn)⟩;refine(b.block k (aj.1 e).1 (λf=>?_)).trans e;cases f;rw[h]at e;cases e;cases g
def pm n(q:3<=n)a d s w l(p:ba (az s.data.toList)=l)(r:s.size<=68719476736)(h:-9223372036854775808<=w)(i:w<=9223372036854775807)e(t:aY e)(c:e.heap[a]?=some (.cells #[Iq w] 3 (0,0)))(b:e.heap[d]?=some (.cells #[.string s] 9 (0,0))):
 SeqStopsK Fence.wide n prog 322 #[Pq a,Pq d] RG (gK a) (λv=>v=bJ l w) (λ_=>True) (l.length+1) e:=λu J j W f m _ o k=>
 Gs n q u a d s w l p r h i J j W m o (λx g=>(t.below f).below g)
  ((f.block a (aj.1 c).1).trans c) ((f.block d (aj.1 b).1).trans b) k
def uV(s:BY)(w:Int)(W:AT):
 Cw 287 #[.string s,Iq w] W λe w'=>e=Rw (.func (.func 322) #[] #[Pq (W.heap.size+1),Pq W.heap.size])/\w'=(W.alloc (.cells #[.string s] 9)).alloc (.cells #[Iq w] 3):=by go_enter func287,ntmps287;go_wp2;go_ret;simp_all
def Ib{W}{B a}{v v' x}(d:a≠B)(h:Boxed W B 3 v)(g:Boxed W a 3 x):gK a W (W.setCell (aq B 0) v')/\Boxed (W.setCell (aq B 0) v') a 3 x:=by
 have f:=Boxed.other g d v';refine⟨⟨λj c i e=>?_,f.trans g.symm⟩,f⟩;have b:j≠B:=by rintro rfl;rw[show W.heap[j]?=_ from h]at e;cases e
 rw[heap_setCell_other _ _ _ _ b];exact e
def Dv(s:BY)(w:Int)(W:AT)(R:aY W)(y:s.size<=68719476736)(B:-9223372036854775808<=w)(C:w<=9223372036854775807):
 Cw 333 #[.string s,Iq w] W λe d=>e=Rw (Iq (bJ (ba (az s.data.toList)) w).length)/\Bq W d:=by
 have z:s.data.toList.length=s.size:=by rw[eK];rfl
 have M:=bC s.data.toList;have L:=ci (az s.data.toList);rw[z]at M;obtain⟨l,G⟩:=af (ba (az s.data.toList));rw[G]at L|-;refine(callsIn_wide (n:=6)).1 ?_;refine callsIn_of_wp_marks func333 rfl trivial ?_ rfl;simp only[ntmps333,iS,cV,eI,Nat.reduceAdd,Nat.reduceSub,nX,nY,nZ,n_,od,kM];gi_wp2_with fail;refine⟨trivial,(callsIn_wide.2 (uV s w _)).mono ?_⟩;rintro e w' ⟨rfl,rfl⟩;have I:=Boxed.new W 3 (Iq 0);obtain⟨f,b⟩:=af (((W.alloc (.cells #[Iq 0] 3)).alloc (.cells #[.string s] 9)).alloc (.cells #[Iq w] 3));have t:Boxed f W.heap.size 3 (Iq 0):=by rw[<-b];exact(I.alloc _).alloc _
 have u:Boxed f (W.heap.size+1) 9 (.string s):=by rw[<-b];have:=Boxed.new (W.alloc (.cells #[Iq 0] 3)) 9 (.string s);rw[ai]at this;exact this.alloc _
 have i:Boxed f (W.heap.size+2) 3 (Iq w):=by rw[<-b];have:=Boxed.new ((W.alloc (.cells #[Iq 0] 3)).alloc (.cells #[.string s] 9)) 3 (Iq w);rw[ai,ai]at this;exact this
 have j:Bq W f:=by rw[<-b];exact(((ac _ W).alloc LE _).alloc At _).alloc (by simp;omega) _
 have Q:f.heap.size=W.heap.size+3:=by rw[<-b];simp
 have A:=R.below j;rw[ai,b];gi_wp2;refine wpIn_rangeFunc_ownG rfl dg (gf:=322) (lb:=#[Pq (W.heap.size+2),Pq (W.heap.size+1)]) rfl trivial (enters_of func322 pt rfl)
  (pm 5 dg (W.heap.size+2) (W.heap.size+1) s w l G y B C f A i u) gK.trans (rV dg) Ok (λ_=>rfl)
  (λa d=>(Boxed d W.heap.size 3 (Iq a.length)/\Boxed d (W.heap.size+2) 3 (Iq w))/\Bq W d)
  (λ_ _ _=>False)
  (OwnFrom.and (OwnFrom.and (Own.from (boxed_own W.heap.size 3 (λa:List Ln=>Iq (a.length:Int))) _) (Own.from (boxed_own _ _ _) _)) (ownFrom_below LE dg))
  (λ_ _ _ _ _ y _ _=>y)
  ⟨⟨t,i⟩,j⟩
  (λx=>{tmps:=#[.string s,Iq w,undef,undef,Iq 0,Pq W.heap.size,.string s,Iq w,.func (.func 322) #[] #[Pq (W.heap.size+2),Pq (W.heap.size+1)],.agg (cF x).toArray,undef,undef,undef],defers:=[]})
  ?assign ?body ?done ?stop;case assign=>rintro S ⟨T,V,F,N,E⟩ d K k;dsimp only[RG,cF]at k|-;gi_wp2;simpa using k
 case body=>rintro S a x d ⟨⟨g,m⟩,r⟩ P;have O:=g.cell;have Y:=g.frozen;have J:=r.size;gi_wp2;obtain⟨v,o⟩:=Ib (v':=Iq ((a.length:Int)+1)) dg g m;exact⟨(KeepsOthers.setCell _ _ _).from _,v,⟨by have:=g.set (Iq ((a.length:Int)+1));grind,o⟩,r.setCell (p:=(aq W.heap.size 0)) LE _⟩
 case done=>rintro D ys d X rfl ⟨⟨g,m⟩,r⟩ k;have O:=g.cell;gi_wp2;refine⟨At,.inl ⟨_,_,rfl,run_takeDeferred k,?_⟩⟩;exact⟨_,results_tmp rfl _ _ _,rfl,r.trans (belowK_b (w:=W) LE d D _ _ dg k rfl rfl)⟩
 case stop=>rintro D c a d _ _ h _;exact h.elim
attribute[local go_sem] Oper.semAt_some
def GR:(prog.info? 341).map (λi=>(i.zero,i.size,i.bytes))=some (some (.agg #[.string ⟨#[]⟩,Iq 0,Iq 0,Iq 0,Iq 0]),5,48):=pt
def BS{W:AT}{f k}{v}{i}(h:W.ownsRow f 341 5 v k i){j}{c}{t}{d}(m:W.heap[j]?=some (.cells c t d))(n:t≠341):some j≠v.ownBlock:=by
 rcases h.2 with⟨rfl,_⟩|⟨g,a,b,rfl,_,l,_⟩;.simp[Value.ownBlock]
 .intro e;obtain rfl:j=g:=by simpa[Value.ownBlock]using e
  grind
def H_{W n}{q B g k}{t}{v v' x}{r}{f}(l:t≠337)(d:g≠B)(p:Boxed W B t v)(b:W.ownsRow q 341 5 v k r)(m:Boxed W g 3 x)(a:(W.alloc f).grownBy n v.ownBlock):
 gK g W (n.setCell (aq B 0) v')/\Boxed (n.setCell (aq B 0) v') g 3 x:=by
 have o:=Boxed.other ((m.alloc f).kept a (BS b m (by decide))) d v';refine⟨⟨λj c s e=>?_,o.trans m.symm⟩,o⟩;have i:=(aj.1 e).1;have h:j≠B:=by rintro rfl;rw[show W.heap[j]?=_ from p]at e;cases e;exact l rfl
 rw[heap_setCell_other _ _ _ _ h];exact(a.block j (by rw[ai];omega) (BS b e (by decide))).trans ((bG _ _ _ i).trans e)
def vH{W}{a}{x}(h:Boxed W a 3 x)o:gK a W (W.alloc o):=
 ⟨λk c b e=>(bG _ _ _ (aj.1 e).1).trans e,bG _ _ _ h.lt⟩
def Eh(s:BY)(w:Int)(W:AT)(ht:aY W)(U:s.size<=68719476736)(ze:-9223372036854775808<=w)(zg:w<=9223372036854775807):
 Cw 238 #[.string s,Iq w] W λe d=>∃v,e=Rw v/\d.ownsRow W.heap.size 341 5 v (bJ (ba (az s.data.toList)) w).length (fW (bJ (ba (az s.data.toList)) w))/\Bq W d:=by
 have X:s.data.toList.length=s.size:=by rw[eK];rfl
 have hR:=bC s.data.toList;have hC:=ci (az s.data.toList);rw[X]at hR;obtain⟨l,hl⟩:=af (ba (az s.data.toList));rw[hl]at hC|-;obtain⟨i0,hi,zh,zi,zj⟩:=info_parts GR;refine(callsIn_wide (n:=6)).1 ?_;refine callsIn_of_wp_marks func238 rfl trivial ?_ rfl;simp only[ntmps238,iS,cV,eI,Nat.reduceAdd,Nat.reduceSub,nX,nY,nZ,n_,od,kM];gi_wp2_with fail;refine⟨trivial,(callsIn_wide.2 (uV s w _)).mono ?_⟩;rintro e w' ⟨rfl,rfl⟩;have bO:=Boxed.new W 339 (.slice none 0 0);obtain⟨q,f⟩:=af (((W.alloc (.cells #[.slice none 0 0] 339)).alloc (.cells #[.string s] 9)).alloc (.cells #[Iq w] 3));have J:Boxed q W.heap.size 339 (.slice none 0 0):=by rw[<-f];exact(bO.alloc _).alloc _
 have L:Boxed q (W.heap.size+1) 9 (.string s):=by rw[<-f];have:=Boxed.new (W.alloc (.cells #[.slice none 0 0] 339)) 9 (.string s);rw[ai]at this;exact this.alloc _
 have y:Boxed q (W.heap.size+2) 3 (Iq w):=by rw[<-f];have:=Boxed.new ((W.alloc (.cells #[.slice none 0 0] 339)).alloc (.cells #[.string s] 9)) 3 (Iq w);rw[ai,ai]at this;exact this
 have C:Bq W q:=by rw[<-f];exact(((ac _ W).alloc LE _).alloc At _).alloc (by simp;omega) _
 have zr:q.heap.size=W.heap.size+3:=by rw[<-f];simp
 have Y:=ht.below C;rw[ai,f];gi_wp2;refine wpIn_rangeFunc_ownH rfl dg (gf:=322) (lb:=#[Pq (W.heap.size+2),Pq (W.heap.size+1)]) rfl trivial (enters_of func322 pt rfl)
  (pm 5 dg (W.heap.size+2) (W.heap.size+1) s w l hl U ze zg q Y y L) gK.trans (rV dg) Ok (λ_=>rfl)
  (λb d=>((∃v,Boxed d W.heap.size 339 v/\d.ownsRow W.heap.size 341 5 v b.length (fW b)/\True)/\Boxed d (W.heap.size+2) 3 (Iq w))/\Bq W d)
  (λ_ _ _=>False)
  (OwnFrom.and (OwnFrom.and (Own.from (holdsRow_own W.heap.size W.heap.size 339 341 5 (λb:List Ln=>b.length) (λb=>fW b) (λ_ _=>True)) _) (Own.from (boxed_own _ _ _) _)) (ownFrom_below LE dg))
  (λ_ _ _ _ _ U _ _=>U)
  ⟨⟨⟨_,J,gw _ _ _ _,trivial⟩,y⟩,C⟩
  (λx a' d=>∃m,d.heap[m]?=some (.cells (cF x).toArray 341 (0,0))/\a'={tmps:=#[.string s,Iq w,undef,undef,.slice none 0 0,Pq W.heap.size,Pq m,.string s,Iq w,.func (.func 322) #[] #[Pq (W.heap.size+2),Pq (W.heap.size+1)],.agg (cF x).toArray,undef,undef,undef,undef,undef],defers:=[]})
  ?hAx ?assign ?body ?done ?stop;case hAx=>rintro x a' _ A B row ⟨m,M,h3⟩ hg hr;refine⟨m,(hg.block m (aj.1 M).1 (λe=>?_)).trans M,h3⟩;obtain⟨_,o,ho,Q⟩:=hr m e.symm;rw[M]at ho;cases ho;cases Q
 case assign=>rintro k0 b ⟨T,V,F,N,E⟩ d K ⟨⟨⟨v,p,a,_⟩,g⟩,k⟩ t;dsimp only[RG,cF]at t|-;have O:=k.size;gi_wp2;exact t _ _ ((KeepsOthers.alloc _ _).from _) (vH g _) ⟨⟨⟨v,p.alloc _,a.alloc _,trivial⟩,g.alloc _⟩,k.alloc k.size _⟩ ⟨d.heap.size,heap_alloc_new _ _,rfl⟩
 case body=>rintro k0 b x a' d zn ⟨r,hr⟩ ⟨⟨⟨v,p,a,_⟩,g⟩,k⟩ ⟨m,hx,rfl⟩ zo;have Q:=p.cell;obtain⟨x0,x1,x2,x3,x4⟩:=Dp hx;have HX:Hid (d.heap[m]?=some (.cells (cF x).toArray 341 (0,0))):=hx;have O:=k.size;clear hx;gi_wp2_with(gi_at_builtin;refine wpListIn_append_own _ rfl _ _ 339 rfl W.heap.size 341 i0 (.agg #[.string ⟨#[]⟩,Iq 0,Iq 0,Iq 0,Iq 0]) 5 48 underlying339 hi zh zi zj rfl (by decide) _ _ _ rfl (a.alloc _) (aq d.heap.size 0) 1 1 (cF x) rfl rfl (Iy _ _ _) (by intro u hu;simp[cF]at hu;rcases hu with rfl|rfl|rfl|rfl|rfl<;>rfl) (by unfold maxLen;omega) dg (by simp;omega) ?_;intro v' w1 j i _;obtain⟨g',z,rfl⟩:=ownsRow_succ j;obtain⟨H,Z,zq,R,P⟩:=p.appended (by decide) a k.size LE j i;obtain⟨S,G⟩:=H_ (v':=Sq g' (b.length+1) z) (by decide) dg p a g i;have zl:=H.cell;have zm:=H.frozen);exact⟨R.from _,S,⟨⟨_,Z,by grind[vP],trivial⟩,G⟩,k.trans P⟩
 case done=>rintro D ys d hD rfl ⟨⟨⟨v,p,a,_⟩,g⟩,k⟩ t;have Q:=p.cell;gi_wp2;refine⟨At,.inl ⟨_,_,rfl,run_takeDeferred t,?_⟩⟩;exact⟨_,results_tmp rfl _ _ _,v,rfl,ownsRow_putObj a _ t rfl,k.trans (belowK_b (w:=W) LE d D _ _ dg t rfl rfl)⟩
 case stop=>rintro D c b d _ _ h _;exact h.elim
attribute[local go_sem] Oper.semAt_some
def gp(id:Int)(eW off:zzb):Nat->Int
 |0=>0
 |k+1=>if eW k=id then off k else gp id eW off k
def gH(id:Int)(eW off:zzb)(n:Nat):Int:=if id=0 then 0 else gp id eW off n
def ft(n:Nat):List Nat:=(List.range n).reverse
def gY n:ft (n+1)=n::ft n:=by unfold ft;rw[sO,List.reverse_append];rfl
def pX id c off:∀  n k   b,b++ft k=ft n->k<=n->(∀i∈b,c i≠id)->gp id c off n=gp id c off k
 |0,k,b,h,l,_=>rn
 |n+1,k,b,h,l,f=>by
  by_cases e:k=n+1;.rw[e]
  .rw[gY]at h;cases b with
   |nil=>have:=congrArg List.length h;grind[ft]
   |cons a b=>rw[kM]at h;injection h with g j;have d:=f a At;rw[g]at d;have hu:gp id c off (n+1)=gp id c off n:=if_neg d;rw[hu];exact pX id c off n k b j dg (λi hi=>f i (by simp[hi]))
def og(W:AT)(p:zze)(n:Nat)(eW off:zzb):Prop:=n=0\/∃b o,p=some (aq b o)/\b<W.heap.size/\∀j,j<n->W.cell? (aq b (o+j*2))=some (Iq (eW j))/\W.cell? (aq b (o+j*2+1))=some (Iq (off j))
def lw(Bx:Nat)(p:zze)(W W':AT):Prop:=W'.heap[Bx]?=W.heap[Bx]?/\∀a:Addr,p=some a->W'.heap[a.block]?=W.heap[a.block]?
def lw.trans{b}{p}{A B C}(h:lw b p A B)(k:lw b p B C):lw b p A C:=⟨k.1.trans h.1,λa e=>(k.2 a e).trans (h.2 a e)⟩
def og.keep{W d}{k}{p}{n}{c off}(h:og W p n c off)(l:lw k p W d):og d p n c off:=by
 rcases h with h|⟨b,o,e,m,f⟩;.exact .inl h
 .have g:d.heap[b]?=W.heap[b]?:=l.2 _ e;refine .inr ⟨b,o,e,?_,λj i=>⟨(aQ (a:=(aq b (o+j*2))) g).trans (f j i).1,(aQ (a:=(aq b (o+j*2+1))) g).trans (f j i).2⟩⟩;grind
def og.below{W W'}{p}{n}{a off}(h:og W p n a off)(d:Bq W W'):og W' p n a off:=by
 rcases h with h|⟨b,o,e,c,f⟩;.exact .inl h
 .exact .inr ⟨b,o,e,zz006 c d.size,λj g=>⟨(d.cell (p:=(aq b _)) c).trans (f j g).1,(d.cell (p:=(aq b _)) c).trans (f j g).2⟩⟩
def Ur(eW off:zzb)(i:Nat):Array Fd:=#[Iq (i:Int),.agg #[Iq (eW i),Iq (off i)]]
def tf(n:Nat)(X:3<=n)(g N c:Nat)(p:zze)(f off:zzb)(U:N<=4611686018427387904)(t:AT)(P:og t p N f off)(z:t.heap[g]?=some (.cells #[.slice p N c] 85 (0,0))):
 SeqStopsK Fence.wide n prog 303 #[Pq g] (Ur f off) (lw g p) (λQ=>Q=ft N) (λa=>∃k,k<=N/\a++ft k=ft N) N t:=by
 intro Y J R W y T K M h0;have q:=(y.block g (aj.1 z).1).trans z;have G:W.cell? (aq g 0)=some (.slice p N c):=by simp[World.cell?,q]
 have D:Hid (W.heap[g]?=some (.cells #[.slice p N c] 85 (0,0))/\og W p N f off):=⟨q,P.below y⟩;have F:=qH<|M;have B:=qH<|h0;refine callsIn_of_wp func303 rfl trivial ?_ rfl;simp only[ntmps303,iS,cV,eI,Nat.reduceAdd,Nat.reduceSub,nX,nY,nZ,n_,od,kM];gi_wp2;gi_loopw[3] (λv wr=>∃(k:Nat) (a:zzh),k<=N/\v=Iq ((k:Int)-1)/\Hid (a++ft k=ft N)/\Hid (wr.heap[g]?=some (.cells #[.slice p N c] 85 (0,0))/\og wr p N f off)/\Hid (J a wr)) (λv _=>(intOf v+1).toNat);.grind
 obtain⟨k,a,V,rfl,d,r,h⟩:=hrel;cases k with
 |zero=>gi_wp2;go_end0;exact⟨⟨_,rfl⟩,.inl ⟨_,by have:=d.out;simp_all[ft],h⟩⟩
 |succ i=>
  have H:((i+1:Nat):Int)-1=(i:Int):=dg;rw[H];have u:a.length<N:=by have x:=congrArg List.length d;rw[aN]at x;simp[ft]at x;omega
  have G:wr.cell? (aq g 0)=some (.slice p N c):=by simp[World.cell?,r.1]
  obtain⟨b,o,rfl,O,l⟩:=r.2.resolve_left dg;have S:=(l i dg).1;have c1:=(l i dg).2;obtain⟨fn,A,assign,body,hy,L⟩:=F a i wr h u;dsimp only[Ur]at hy;have C:=qH<|L;have s:Hid ((a++[i])++ft i=ft N):=qH<|by rw[<-d.out,gY];simp
  gi_wp2;refine⟨λ_=>dg,C.mono ?_⟩;rintro e w (⟨rfl,I,m⟩|⟨rfl,j⟩)
  .have E:Hid (w.heap[g]?=some (.cells #[.slice (some (aq b o)) N c] 85 (0,0))/\og w (some (aq b o)) N f off):=⟨m.1.trans r.1,r.2.keep m⟩;gi_wp2;go_roundw;.grind
   .simp[intOf]<;>omega
  .gi_wp2;refine bodyPost_ret (results_none rfl _ _ _) rfl ?_;exact⟨⟨_,rfl⟩,.inr ⟨_,⟨i,dg,s⟩,j⟩⟩
def th(p:zze)(N c:Nat)(W:AT):
 Cw 257 #[.slice p N c] W λe w'=>e=Rw (.func (.func 303) #[] #[Pq W.heap.size])/\w'=W.alloc (.cells #[.slice p N c] 85):=by go_enter func257,ntmps257;go_wp2;go_ret;simp_all
def D7{b B}{p}(d:b<B)(f:∀a,p=some a->a.block<B)W l o c(g:B<=l)(_:W.heap[l]?=some o)(_:o.isCells=false)(_:o.isWalk=false):lw b p W (W.putObj l c):=
 ⟨World.putObj_heap_other dg,λa e=>World.putObj_heap_other rn⟩
def F_{W:AT}{B}{x y}{t}(h:W.heap[B]?=some (.cells #[x,y] t (0,0))):W.cell? (aq B 0)=some x/\W.cell? (aq B 1)=some y:=by simp[World.cell?,h]
def yU(id:Int)(p:zze)(N c:Nat)(b off:zzb)(U:AT)(hs:og U p N b off)(hN:N<=4611686018427387904)(hp:∀a:Addr,p=some a->a.block<U.heap.size):
 Calls prog 191 #[Iq id,.slice p N c] U λe U'=>e=.returned (Iq (gH id b off N))/\Below U.heap.size U U':=by
 by_cases h0:id=0;.subst h0;have M:Hid (gH 0 b off N=0):=if_pos rfl;have HB:Hid (Below U.heap.size U ((U.alloc (.cells #[Iq 0] 3)).alloc (.cells #[Iq 0] 3))):=((ac _ U).alloc LE _).alloc At _;go_enter func191,ntmps191;go_wp2;refine bodyPost_ret (v:=Iq 0) (by simp[results,Tryz.results191,go_sem]) rfl ⟨by rw[M.out],HB⟩
 .have M:Hid (gH id b off N=gp id b off N):=if_neg h0;refine(callsIn_wide (n:=6)).1 ?_;refine callsIn_of_wp_marks func191 rfl trivial ?_ rfl;simp only[ntmps191,iS,cV,eI,Nat.reduceAdd,Nat.reduceSub,nX,nY,nZ,n_,od,kM];gi_wp2_with fail;refine⟨trivial,(callsIn_wide.2 (th p N c _)).mono ?_⟩;rintro e w' ⟨rfl,rfl⟩;obtain⟨S,hS⟩:=af U.heap.size;obtain⟨y,l⟩:=af (((U.alloc (.cells #[Iq id] 3)).alloc (.cells #[Iq 0] 3)).alloc (.cells #[.slice p N c] 85));have bI:Boxed y S 3 (Iq id):=by rw[<-l,<-hS];exact((Boxed.new U 3 (Iq id)).alloc _).alloc _
  have bR:Boxed y (S+1) 3 (Iq 0):=by rw[<-l,<-hS];have:=Boxed.new (U.alloc (.cells #[Iq id] 3)) 3 (Iq 0);rw[ai]at this;exact this.alloc _
  have bX:Boxed y (S+2) 85 (.slice p N c):=by rw[<-l,<-hS];have:=Boxed.new ((U.alloc (.cells #[Iq id] 3)).alloc (.cells #[Iq 0] 3)) 85 (.slice p N c);rw[ai,ai]at this;exact this
  have I:Below S U y:=by rw[<-l,<-hS];exact(((ac _ U).alloc LE _).alloc At _).alloc (by simp;omega) _
  have zn:y.heap.size=S+3:=by rw[<-l];simp;omega
  have zi:=hs.below (by subst hS;exact I);have zh:∀a:Addr,p=some a->a.block<S:=λa e=>rn;rw[ai,ai,l];gi_wp2;refine wpIn_rangeFunc_ownH rfl dg (gf:=303) (lb:=#[Pq (S+1+1)]) rfl trivial (enters_of func303 pt rfl)
   (tf 5 dg (S+1+1) N c p b off hN y zi bX) lw.trans (D7 dg (λa e=>rn)) Ok (λ_=>rfl)
   (λf d=>(((Boxed d S 3 (Iq id)/\Boxed d (S+1) 3 (Iq 0))/\Boxed d (S+1+1) 85 (.slice p N c))/\Below S U d)/\∀i∈f,b i≠id)
   (λV f d=>∃j x,f=j++[x]/\b x=id/\(∀i∈j,b i≠id)/\Boxed d (S+1) 3 (Iq (off x))/\Below S U d/\V=.ret)
   (OwnFrom.and (OwnFrom.and (OwnFrom.and (OwnFrom.and (Own.from (boxed_own S 3 (λ_:List Nat=>Iq id)) _) (Own.from (boxed_own (S+1) 3 (λ_:List Nat=>Iq 0)) _)) (Own.from (boxed_own (S+1+1) 85 (λ_:List Nat=>Value.slice p N c)) _)) (ownFrom_below dg dg)) (λ_ _ _ _ h _ _=>h))
   (λV f A B row ⟨j,x,G,W,X,Y,q,Z⟩ P L=>⟨j,x,G,W,X,(Own.from (boxed_own (S+1) 3 (λ_:Unit=>Iq (off x))) y.heap.size) () A B row Y P L,(ownFrom_below (β:=Unit) (n₀:=S) (w₀:=U) dg dg) () A B row q P L,Z⟩)
   ⟨⟨⟨⟨bI,bR⟩,bX⟩,I⟩,λi hi=>by cases hi⟩
   (λx a' d=>∃t,d.heap[t]?=some (.cells #[Iq (b x),Iq (off x)] 154 (0,0))/\a'={tmps:=#[Iq id,.slice p N c,Pq S,undef,Pq (S+1),undef,Pq t,Iq id,.bool false,.slice p N c,.func (.func 303) #[] #[Pq (S+1+1)],Iq (x:Int),.agg #[Iq (b x),Iq (off x)],undef,undef,undef,undef,undef,undef],defers:=[]})
   ?hAx ?assign ?body ?done ?stop;case hAx=>rintro x a' _ A B row ⟨t,g,z⟩ P L;refine⟨t,(P.block t (aj.1 g).1 (λe=>?_)).trans g,z⟩;obtain⟨_,o,ho,Z⟩:=L t e.symm;rw[g]at ho;cases ho;cases Z
  case assign=>rintro k0 f x d K ⟨⟨⟨⟨m,g⟩,z⟩,q⟩,H⟩ C;dsimp only[Ur]at C|-;have zg:∀o,lw (S+1+1) p d (d.alloc o):=λo=>⟨bG _ _ _ z.lt,λa e=>bG _ _ _ (by have:=zh a e;have:=m.lt;omega)⟩;gi_wp2;exact C _ _ ((KeepsOthers.alloc _ _).from _) (zg _) ⟨⟨⟨⟨m.alloc _,g.alloc _⟩,z.alloc _⟩,q.alloc (by have:=m.lt;omega) _⟩,H⟩ ⟨d.heap.size,heap_alloc_new _ _,rfl⟩
  case body=>
   rintro k0 f x a' d zl ⟨r,L⟩ ⟨⟨⟨⟨m,g⟩,z⟩,q⟩,H⟩ ⟨t,R,rfl⟩ zm;have c1:=m.cell;have c2:=g.cell;have f2:=g.frozen;obtain⟨x0,x1⟩:=F_ R;by_cases hid:b x=id;.have HE:Hid (Boxed (d.setCell (aq (S+1) 0) (Iq (off x))) (S+1) 3 (Iq (off x))/\Below S U (d.setCell (aq (S+1) 0) (Iq (off x)))):=⟨g.set _,q.setCell (p:=(aq (S+1) 0)) rn _⟩;rw[hid]at x0;gi_wp2;exact⟨(KeepsOthers.setCell _ _ _).from _,f,x,rfl,hid,H,HE.1,HE.2,rfl⟩
   .have G:(b x==id)=false:=by simpa using hid
    gi_wp2;exact⟨(KeepsOthers.refl _).from _,⟨rfl,λ_ _=>rfl⟩,⟨⟨⟨m,g⟩,z⟩,q⟩,λi hi=>rn⟩
  case done=>
   rintro D ys d hD rfl ⟨⟨⟨⟨m,g⟩,z⟩,q⟩,H⟩ C;have c2:=g.cell;have f2:=g.frozen;have u:Hid (gH id b off N=0):=qH<|by rw[M.out,pX id b off N 0 (ft N) (by simp[ft]) LT H];rfl
   have J:(d.setCell (aq (S+1) 0) (Iq 0)).heap[D]?=some (.deferred (some [])):=(aM d (aq (S+1) 0) _ D rn).trans C;have E:=(g.set (Iq 0)).kept (grownBy_putObj' _ D (.deferred none)) rn;have F:=E.cell;have T:Hid (Below S U ((d.setCell (aq (S+1) 0) (Iq 0)).putObj D (.deferred none))):=(q.setCell (p:=(aq (S+1) 0)) rn _).trans (belowK_b (w:=U) dg _ D _ _ dg J rfl rfl);gi_wp2;refine⟨At,.inl ⟨_,_,rfl,run_takeDeferred J,?_⟩⟩;exact⟨Iq 0,by simp[results,Tryz.results191,go_sem,F],by rw[u.out],by rw[hS];exact T⟩
  case stop=>
   rintro D V f d hD ⟨k,hk,s⟩ ⟨j,x,G,W,X,Y,q,rfl⟩ C;have u:Hid (gH id b off N=off x):=by
    show _=_;have Q:j++ft (k+1)=ft N:=by
     have:=s;rw[G]at this;have R:x=k:=by
      have h9:∀(n:Nat) (j:zzh) (x k:Nat),(j++[x])++ft k=ft n->x=k:=by
       intro n;induction n with
       |zero=>simp_all[ft]
       |succ n ih=>
        intro j x k h;rw[gY]at h;cases j with
        |nil=>simp at h;have:=congrArg List.length h.2;grind[ft]
        |cons a j=>grind
      exact h9 N j x k this
     rw[gY,<-R];rw[<-R]at this;simpa using this
    have ze:k+1<=N:=by have:=congrArg List.length Q;simp[ft]at this;omega
    have zj:x=k:=by
     have m:=s;rw[G]at m;have g:j++(x::ft k)=j++(k::ft k):=by rw[gY]at Q;rw[Q,<-m];simp
     have:=List.append_cancel_left g;injection this
    rw[M.out,pX id b off N (k+1) j Q ze X];show(if b k=id then off k else gp id b off k)=off x;rw[<-zj,if_pos W]
   have E:=Y.kept (grownBy_putObj' d D (.deferred none)) rn;have F:=E.cell;gi_wp2;refine⟨At,.inl ⟨_,_,rfl,run_takeDeferred C,?_⟩⟩;exact⟨Iq (off x),by simp[results,Tryz.results191,go_sem,F],by rw[u.out],by rw[hS];exact q.trans (belowK_b (w:=U) dg d D _ _ dg C rfl rfl)⟩
