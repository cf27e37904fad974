import Derived.Test.YtaanagpadfcmlaaGreatDoorQ20
import Derived.Deep.CutRange
import Derived.Laws.EntriesVeiled
set_option linter.all false
set_option maxRecDepth 100000
set_option maxHeartbeats 16000000
namespace Go.Proofs.YtaanagpadfcmlaaGreatDoor
open Go.RowKit Go.Proofs.Tryz
theorem ie{P}{p}{o}{a}{w}{K}{Q}{E}(N:o.guard=none)s x t(y:o.op=Op.call {callee:=Callee.builtin Builtin.append,args:=#[s,x],argTypes:=#[t,t]})d e i z size bytes(h1:P.underlying t=some (.slice e))(D:P.info? e=some i)(F:i.zero=some z)(G:i.size=size)(H:i.bytes=bytes)(I:z.cells.size=size)(J:0<size)v n f(R:a.eval s=v)(k:w.ownsRow d e size v n f)q m c b(T:a.eval x=.slice (some q) m c)(O:b.length=m*size)(M:∀j u,b[j]?=some u->w.cell? (q.add j)=some u)(r:∀u∈b,u.oneCell'=true)(A:n+m<=maxLen)(B:(n+m)*bytes<=140737488355328)(C:d<=w.heap.size)(L:∀h w',w'.ownsRow d e size h (n+m) (f++b)->w.grownBy w' v.ownBlock->(h.ownBlock=v.ownBlock\/h.ownBlock=some w.heap.size)->K (a.put o.dst h) w'):
 if Region.wanted o (yielded p a.tmps)=true then Oper.wp P o a w K Q else E:=by
 have S:Region.wanted o (yielded p a.tmps)=true:=by simp[Region.wanted,N]
 rw[if_pos S];obtain⟨h,w',l,U,V,_,W⟩:=run_append_own_at (P:=P) w d t o.type e i z size bytes h1 D F G H I J v n f k q m c b O M r A B C;unfold Oper.wp;simp[execOp,y,resolve,invoke,builtin,R,T,l,Result.andThen];exact L h w' U V W
theorem Iw:(prog.info? 57).map (λi=>(i.zero,i.size,i.bytes))=some (some (.agg #[Iq 0,Iq 0,Iq 0,Iq 0,Iq 0,Iq 0,Iq 0,Iq 0,Iq 0,Iq 0,Iq 0,Iq 0,Iq 0,.string ⟨#[]⟩,.slice none 0 0,Iq 0]),16,152):=ns
theorem db{W:World}{B n size}{e}{v}{a}(h:W.ownsRow B e size v n a):∃p c,v=.slice p n c:=by grind[cU]
theorem iQ(w:World)a T b(h:a.toList=b):∀j u,b[j]?=some u->(w.alloc (.cells a T)).cell? (((aj w.heap.size 0):Addr).add j)=some u:=by
 intro j u hu;have e:((aj w.heap.size 0):Addr).add j=(aj w.heap.size (0+j)):=by unfold Addr.add;split<;>simp_all
 rw[e,aZ,World.cell?_alloc_at _ _ _ _ rfl,<-hu,<-h];simp
theorem OO d p n c:∀u∈bC d (.slice p n c),u.oneCell'=true:=by intro u hu;unfold bC at hu;simp at hu;rcases hu with rfl|⟨x,_,rfl⟩|rfl|rfl|rfl<;>rfl
theorem PR.far{W b}{o}{a B}{s}{i}{c m d}(h:PR W a s i c m d)(l:W.grownBy b o)(n:∀g,o=some g->B<=g)(p:a<B):PR b a s i c m d:=by have f:=l.block a h.lt (λe=>rd);have k:∀j,b.cell? (aj a j)=W.cell? (aj a j):=λj=>bf f;exact⟨zz007 h.lt l.size,(k 0).trans h.c0,(k 1).trans h.c1,(k 2).trans h.c2,(k 3).trans h.c3,(k 4).trans h.c4,λj=>(nH f).trans (h.fz j)⟩
theorem PR.setN{W}{b}{s}{i}{c e d}(h:PR W b s i c e d)a:PR (W.setCell (aj b 3) a) b s i c a d:=
 ⟨by simpa using h.lt,aE dg h.c0,aE dg h.c1,aE dg h.c2,gh h.c3,aE dg h.c4,λj=>by rw[fI];exact h.fz j⟩
theorem Up.set{B b o}W(c:b<B)v:Up B W (W.setCell (aj b o) v):=⟨rn,λk h1 a=>bK W (aj b o) v k rd⟩
theorem Fr.set{B r o}W v:Fr B r W (W.setCell (aj r o) v):=⟨rfl,rfl,rfl,rn,λk h1 a=>bK W (aj r o) v k a⟩
theorem yX:(prog.info? 3).map (λi=>(i.zero,i.size,i.bytes))=some (some (Iq 0),1,8):=ns
def lU(w w':World)(rb B:Nat)(s:ByteArray)(i:Nat)(av fv:Value)(L:List Nd):Prop:=∃nv KV,PR w' rb s i av nv fv/\PN w' B nv L KV/\Fr B rb w w'/\B<=w'.heap.size
theorem cX{B}{w w'}(h:Below B w w')q:Below B w (w'.drewN q):=⟨h.os,h.tape,h.output,h.size,h.block⟩
theorem fc{B b o}{w w'}(h:Below B w w')(c:B<=b)v:Below B w (w'.setCell (aj b o) v):=
 ⟨h.os,h.tape,h.output,by simpa using h.size,λk a=>(bK w' (aj b o) v k rd).trans (h.block k a)⟩
theorem K3{w wc w3}{f B g r D j c:Nat}{s}{i}{C E h}{p}{m}{A}{x}{d}(hp:PR w3 f s i C (Sq g r D) E)(G:PN wc B (Sq g r D) p m)(O:p.length=r)(K:Fr B f w wc)(y:B<=wc.heap.size)(z:f<B)(I:B<=g)(F:j<r)(M:m j=.slice A d.length x)(N:(aa p j).kids=d)o(R:w3.ownsRow B 3 1 h (d.length+1) (iX d++[Iq (c:Int)]))(L:((wc.alloc o).drew).grownBy w3 (Value.slice A d.length x).ownBlock)(J:h.ownBlock=(Value.slice A d.length x).ownBlock\/h.ownBlock=some ((wc.alloc o).drew).heap.size):
 lU w (w3.setCell (aj g (j*16+14)) h) f B s i C E (p.modify j λu=>{u with kids:=u.kids++[c]}):=by subst O;have n:=G.nr.kids j F;rw[M]at n;have b:Bt wc (wc.alloc o).drew:=cX ((af wc.heap.size wc).alloc (ae _) o) 1;have t:=G.up (Up.below (B:=B) b);have v:=t.kid (k:=j) (c:=c) (W':=w3) (kv':=h) F (by grind[iX]) rd rd;have a:Fr B f wc w3:=(Fr.below b y).trans (Fr.own L (aF y b.size) (λg e=>(n.lt g e).1));have l:Fr B f w3 (w3.setCell (aj g (j*16+14)) h):=Fr.own (bF w3 g _ _) (aF y a.size) (λq e=>rd);exact⟨_,_,PR.far hp (bF w3 g _ _) (λq e=>rd) z,v,K.trans (a.trans l),by have:=a.size;have:=l.size;omega⟩
def Gv(w w':World)(rb B:Nat)(s:ByteArray)(i:Nat)(av fv:Value)(L:List Nd)(KV:Nat->Value):Prop:=∃p c,PR w' rb s i av (.slice p L.length c) fv/\PN w' B (.slice p L.length c) L (λj=>if j=L.length-1 then .slice none 0 0 else KV j)/\Fr B rb w w'/\B<=w'.heap.size
def wA(kind:Nat)(up:Int)(k t:Nat):Value:=if t=0 then Iq (kind:Int)else if t<=k then Iq (mD (t-1))else if t<=12 then Iq 0 else if t=13 then .string ⟨#[]⟩else if t=14 then .slice none 0 0 else Iq up
theorem GM{a}{up}{k}(b:k<12):wA a up (k+1) (k+1)=Iq (mD k):=by grind[wA]
theorem GN{a}{up}{k t}(h:t≠k+1):wA a up (k+1) t=wA a up k t:=by grind[wA]
theorem AO{a:Nat}{up}{w:World}{T}t(b:t<16):(w.alloc (.cells #[Iq (a:Int),Iq 0,Iq 0,Iq 0,Iq 0,Iq 0,Iq 0,Iq 0,Iq 0,Iq 0,Iq 0,Iq 0,Iq 0,.string ⟨#[]⟩,.slice none 0 0,Iq up] T)).cell? (aj w.heap.size t)=some (wA a up 0 t):=by
 rw[World.cell?_alloc_at _ _ _ _ rfl];have:t=0\/t=1\/t=2\/t=3\/t=4\/t=5\/t=6\/t=7\/t=8\/t=9\/t=10\/t=11\/t=12\/t=13\/t=14\/t=15:=dg;rcases this with rfl|rfl|rfl|rfl|rfl|rfl|rfl|rfl|rfl|rfl|rfl|rfl|rfl|rfl|rfl|rfl<;>rfl
theorem wD(l ab B:Nat)(s:ByteArray)(i:Nat)(nv O:Value)(L:List Nd)(KV:Nat->Value)(a:Nat)(up:Int)(w:World)(h:PR w l s i (Sq ab 12 12) nv O)(hn:PN w B nv L KV)(ht:GL w ab)(J:l<B)(zX:ab<B)(zE:ab≠l)(hB:B<=w.heap.size)(hL:L.length<=100000)(zG:up=-1\/(0<=up/\up<L.length))(zD:∀j M,j<L.length->(aa L j).kids=M->M.length<=100000000):
 Cw 120 #[Pq l,Iq (a:Int),Iq up] w λe w'=>e=Rw (Iq (L.length:Int))/\lU w w' l B s i (Sq ab 12 12) O (grown L ⟨a,aQ,[],[],up⟩):=by
 obtain⟨pn,cn,rfl⟩:∃p c,nv=.slice p L.length c:=db hn.nr.row.choose_spec;have HR:=qH<|h;have HN:=qH<|hn;have HT:=qH<|ht;have c2:=h.c2;have zF:=h.lt;have zA:=ht.lt;obtain⟨i0,hi,zL,zM,zN⟩:=info_parts Iw;clear h hn ht;go_enter func120,ntmps120;go_wp2;go_loopw[19] (λv wr=>∃k:Nat,v=Iq (k:Int)/\k<=12/\w.heap.size<wr.heap.size/\Hid (Bt w wr)/\Hid (∀t,t<16->wr.cell? (aj w.heap.size t)=some (wA a up k t)/\wr.frozen? (aj w.heap.size t)=false)) (λv _=>12-(intOf v).toNat);case atStart=>exact⟨0,rfl,dg,rn,(af _ _).alloc (ae _) _,λt ht=>⟨AO t ht,frozen_of_row _ _ _ _ _ (heap_alloc_new _ _)⟩⟩
 case round=>
  obtain⟨k,rfl,hk,Ly,N,f⟩:=hrel;by_cases X:k<12
  ·have zQ:(k:Int)<12:=dg
   have hT:=HT.fr (Fr.below (r:=l) N (ae _)) zA zE;obtain⟨t0,t1,t2,t3,t4,t5⟩:=hT.at X;have zV:=hT.lt;obtain⟨d1,f1⟩:=f (k+1) dg;have HQ:=qH<|in_at k X;obtain⟨g,x⟩:=ad (u_ k);obtain⟨a0,h0⟩:=ad (gK k);obtain⟨a1,h1⟩:=ad (mV k);obtain⟨a2,h2⟩:=ad (me k);obtain⟨a3,h3⟩:=ad (mD k);obtain⟨a4,h4⟩:=ad (pH k);rw[h0]at t0;rw[h1]at t1;rw[h2]at t2;rw[h3]at t3;rw[h4]at t4;rw[x]at t5 HQ;have H3:=qH<|h3;obtain⟨x1,zj⟩:=ad (wA a up k (k+1));rw[zj]at d1;have eg:=HQ.1;clear h0 h1 h2 h3 h4 x hT zj;go_wp2_with fail;go_region_with(go_at_fn g;refine(HQ.2 _ _ _).mono ?_;rintro e w2 ⟨rfl,rfl⟩);all_goals
    go_wp2;go_roundw;case rel=>
     refine⟨k+1,by go_num,dg,by simp;omega,?_,λt ht=>?_⟩;·exact cX (Below.alloc (fc N (ae _) _) (by simp;omega) _) 1
     ·have hb:∀(o:Obj) (u:Value),(((wr.setCell (aj w.heap.size (k+1)) u).alloc o).drew).heap[w.heap.size]?=(wr.setCell (aj w.heap.size (k+1)) u).heap[w.heap.size]?:=λo u=>by show((wr.setCell (aj w.heap.size (k+1)) u).alloc o).heap[w.heap.size]?=_;exact heap_alloc_old _ _ (by simp;omega)
      refine⟨?_,?_⟩
      ·rw[bf (hb _ _)];by_cases e:t=k+1;·subst e;rw[gh (f (k+1) ht).1,GM X,H3.out]
       ·rw[aE e (f t ht).1,GN e]
      ·rw[nH (hb _ _),fI];exact(f t ht).2
    case measure=>simp[intOf];omega
  ·obtain rfl:k=12:=dg
   have n0:wr.cell? (aj w.heap.size 0)=some (Iq (a:Int)):=(f 0 dg).1;have n1:wr.cell? (aj w.heap.size 1)=some (Iq 0):=(f 1 dg).1;have n2:wr.cell? (aj w.heap.size 2)=some (Iq 0):=(f 2 dg).1;have n3:wr.cell? (aj w.heap.size 3)=some (Iq (-1)):=(f 3 dg).1;have n4:wr.cell? (aj w.heap.size 4)=some (Iq 1):=(f 4 dg).1;have n5:wr.cell? (aj w.heap.size 5)=some (Iq 0):=(f 5 dg).1;have n6:wr.cell? (aj w.heap.size 6)=some (Iq 0):=(f 6 dg).1;have n7:wr.cell? (aj w.heap.size 7)=some (Iq 1):=(f 7 dg).1;have n8:wr.cell? (aj w.heap.size 8)=some (Iq 0):=(f 8 dg).1;have n9:wr.cell? (aj w.heap.size 9)=some (Iq 1):=(f 9 dg).1;have zl:wr.cell? (aj w.heap.size 10)=some (Iq 0):=(f 10 dg).1;have zm:wr.cell? (aj w.heap.size 11)=some (Iq 0):=(f 11 dg).1;have zn:wr.cell? (aj w.heap.size 12)=some (Iq 0):=(f 12 dg).1;have zo:wr.cell? (aj w.heap.size 13)=some (.string ⟨#[]⟩):=(f 13 dg).1;have zq:wr.cell? (aj w.heap.size 14)=some (.slice none 0 0):=(f 14 dg).1;have zr:wr.cell? (aj w.heap.size 15)=some (Iq up):=(f 15 dg).1;have y:=qH<|HR.belowB N zF;have C:=qH<|HN.up (Up.below N);have r3:=y.c3;have R:=y.lt;have zi:l≠wr.heap.size:=dg
   obtain⟨xs,hxs⟩:=C.nr.row;have Z:=qH<|hxs;clear hxs c2;go_wp2_with fail;go_cut[10]from 35 to 44 (λv wx=>v=Iq (L.length:Int)/\Hid (Gv w wx l B s i (Sq ab 12 12) O (L++[⟨a,aQ,[],[],up⟩]) KV));case first=>
    go_region_law(refine ie rfl (.tmp 39) (.tmp 41) 41 rfl B 57 i0 _ 16 152 underlying41 hi zL zM zN rfl (by decide) (.slice pn L.length cn) L.length xs (by simp[Act.eval]) (pd (w:=wr.drew) Z _) _ 1 1 (bC ⟨a,aQ,[],[],up⟩ (.slice none 0 0)) (by simp[Act.eval]) rfl (iQ _ _ _ _ rfl) (OO _ _ _ _) (by unfold maxLen;omega) dg (by simp;omega) ?_;intro v' w1 b x G;obtain⟨p',c',Y⟩:=db b;subst Y;have E:=qH<|PR.far ((y.drewN 1).below ((af _ _).alloc (ae _) _)) x (λg e=>(Z.lt g e).1) J;have k3:=E.c3;have kf:=E.fz 3);all_goals
     have hzr:=N.size;have zc:=qH<|PN.app (C.up (Up.below (cX ((af _ _).alloc rn _) 1))) (pd (w:=wr.drew) Z _) b x rfl rfl;have za:Hid (Fr B l w w1):=(Fr.below N hB).trans ((Fr.below (cX ((af wr.heap.size wr).alloc rn _) 1) dg).trans (Fr.own x (by simp;omega) (λg e=>(Z.lt g e).1)));obtain⟨w2,K⟩:=ad (w1.setCell (aj l 3) (.slice p' (L.length+1) c'));have T:Hid (PR w2 l s i (Sq ab 12 12) (.slice p' (L.length+1) c') O):=by rw[<-K];exact E.setN _
     have D:Hid (PN w2 B (.slice p' (L.length+1) c') (L++[⟨a,aQ,[],[],up⟩]) (λj=>if j=L.length then .slice none 0 0 else KV j)):=by rw[<-K];exact zc.up (Up.set _ J _)
     have A:Hid (Fr B l w w2):=by rw[<-K];exact za.trans (Fr.set _ _)
     have F:B<=w2.heap.size:=by have:=A.size;omega
     rw[K];clear x b G k3 kf E zc za Z C y r3 R zi n0 n1 n2 n3 n4 n5 n6 n7 n8 n9 zl zm zn zo zq zr f N;have HM:Hid (Gv w w2 l B s i (Sq ab 12 12) O (L++[⟨a,aQ,[],[],up⟩]) KV):=⟨p',c',by simpa using T.out,by simpa using D.out,A,F⟩;go_wp2;go_meet;grind
   case rest=>
    obtain⟨rfl,HM⟩:=hcut;clear n0 n1 n2 n3 n4 n5 n6 n7 n8 n9 zl zm zn zo zq zr Z C y r3 R zi f N HR HN HT;obtain⟨L1,n⟩:=ad (L++[(⟨a,aQ,[],[],up⟩:Nd)]);rw[n]at HM;have hl1:L1.length=L.length+1:=by rw[<-n];simp
    obtain⟨p',c',m,d,H,F⟩:=HM.out;rw[hl1]at m d;have T:=qH<|m;have A:=qH<|H;rcases zG with rfl|⟨YQ,Vk⟩
    ·have HO:Hid (lU w wc l B s i (Sq ab 12 12) O (grown L ⟨a,aQ,[],[],-1⟩)):=by
      have zh:grown L ⟨a,aQ,[],[],-1⟩=L1:=by unfold grown;rw[if_pos rd];exact n
      rw[zh];exact⟨_,_,m,d,H,F⟩
     clear d m H HM;go_wp2;go_ret;exact⟨rfl,HO⟩
    ·obtain⟨j,rfl⟩:∃j:Nat,up=(j:Int):=⟨up.toNat,dg⟩;have hj:j<L.length:=dg
     have zt:Hid (grown L ⟨a,aQ,[],[],(j:Int)⟩=L1.modify j λu=>{u with kids:=u.kids++[L.length]}):=by show _=_;rw[<-n];exact iV L _ j rfl hj
     have zC:(aa L1 j).kids.length<=100000000:=by rw[<-n,ci hj];exact zD j _ hj rfl
     obtain⟨zx,P⟩:=ad (fun(q:Nat)=>if q=L.length+1-1 then Value.slice none 0 0 else KV q);rw[P]at d;clear P n HM;obtain⟨g,zT,hv,zz,zg,_,_⟩:=d.nr.form dg;simp only[hl1,Am,true_and]at hv;obtain⟨rfl,rfl⟩:=hv;have W:j<L1.length:=dg;have z:=d.nr.kids j W;have Q:=d.len j W;obtain⟨pk,ck,hk⟩:=db z;obtain⟨M,I⟩:=ad ((aa L1 j).kids);rw[hk,I]at z;rw[I]at hk zC;have S:=qH<|z;have ze:wc.cell? (aj g (j*16+14))=some (.slice pk M.length ck):=by rw[<-hk];exact d.nr.cells g rfl j W 14 (zx j) (Mi Q)
     have zb:Hid (some g≠(Value.slice pk M.length ck).ownBlock):=by
      obtain⟨ys,zK⟩:=d.nr.row;rcases eL (v':=Sq g (L.length+1) c') z zK (by decide)with e|e;·grind
      ·exact λe2=>e e2.symm
     have zh:g≠l:=dg;have f14:wc.frozen? (aj g (j*16+14))=false:=d.nr.frz rfl (j*16+14);have d3:=m.c3;have zY:(j:Int)<((L.length+1:Nat):Int):=dg;have zZ:(j:Int)<(L.length:Int)+1:=dg;have zU:((j:Int)!=-1)=true:=by rw[bne_iff_ne];omega
     have zR:=m.lt;have D:=qH<|d;have zu:=qH<|hk;have zv:=qH<|I;have zw:=qH<|hl1;obtain⟨i1,zB,zH,zI,zJ⟩:=info_parts yX;clear z d hk I m H Q hl1;go_wp2_with fail;go_cut[10]from 47 to 64 (λv wx=>v=Iq (L.length:Int)/\Hid (lU w wx l B s i (Sq ab 12 12) O (grown L ⟨a,aQ,[],[],(j:Int)⟩)));case first=>
      go_region_law(refine ie rfl (.tmp 59) (.tmp 61) 55 rfl B 3 i1 (Iq 0) 1 8 underlying55 zB zH zI zJ rfl (by decide) (.slice pk M.length ck) M.length (iX M) (by simp[Act.eval]) (pd (w:=wc.drew) S _) _ 1 1 [Iq (L.length:Int)] (by simp[Act.eval]) rfl (iQ _ _ _ _ rfl) (by intro u hu;simp at hu;subst hu;rfl) (by unfold maxLen;omega) dg (by simp;omega) ?_;intro v' w3 b x G;obtain⟨zP,zy,Y⟩:=db b;subst Y;have U:=qH<|PR.far ((T.drewN 1).below ((af _ _).alloc (ae _) _)) x (λg e=>(S.lt g e).1) J;have k3:=U.c3;have V:=(x.block g (zz007 zg rn) zb).trans (heap_alloc_old _ _ zg);have zO:=(bf V).trans ze;have zk:=(nH V).trans f14);all_goals
       have HO:Hid (lU w (w3.setCell (aj g (j*16+14)) (.slice zP (M.length+1) zy)) l B s i (Sq ab 12 12) O (grown L ⟨a,aQ,[],[],(j:Int)⟩)):=by rw[zt.out];exact K3 U D zw A F J zz dg zu zv _ b x G
       clear U x G b k3 V zO zk;go_wp2_with fail;go_meet;exact⟨rfl,HO⟩
     case rest=>obtain⟨rfl,HO⟩:=hcut;clear S ze f14 d3 D;go_wp2;go_ret;exact⟨rfl,HO⟩
def fF(L:List Nd)(k:Nat)(n:Int):Bool:=L.any λd=>d.attr[k]?.getD 0==n
theorem Bf L n:fF L 0 n=em L n:=rfl
theorem any_take_succ L k j n(a:j<L.length)(h:fF (L.take j) k n=false)(b:((aa L j).attr[k]?.getD 0==n)=false):fF (L.take (j+1)) k n=false:=by unfold fF at*;rw[List.take_add_one,Kj,h];grind[aa]
theorem any_at L k j n(a:j<L.length)(b:((aa L j).attr[k]?.getD 0==n)=true):fF L k n=true:=by grind[fF,aa]
def rL(k:Nat):Value:=.agg #[.string (gK k),.int .u64 (mV k:Int),Iq (me k),Iq (mD k),.bool (pH k),.func (.func (u_ k)) #[] #[]]
theorem pI(u B:Nat)(s:ByteArray)(i:Nat)(P H S:Value)(L:List Nd)(KV:Nat->Value)(k:Nat)(X:k<12)(n:Int)(w:World)(h:PR w u s i P H S)(E:PN w B H L KV)(hL:L.length<=100000):
 Cw 242 #[Pq u,rL k,Iq n] w λe w'=>e=Rw (.bool (fF L k n))/\Bt w w':=by
 obtain⟨Z,R,rfl⟩:∃p c,H=.slice p L.length c:=db E.nr.row.choose_spec;have r:=qH<|in_at k X;unfold rL;obtain⟨g,D⟩:=ad (u_ k);obtain⟨a0,T⟩:=ad (gK k);obtain⟨a1,h1⟩:=ad (mV k);obtain⟨a2,U⟩:=ad (me k);obtain⟨a3,V⟩:=ad (mD k);obtain⟨a4,W⟩:=ad (pH k);rw[D,T,h1,U,V,W];rw[D]at r;have eg:=r.1;clear T h1 U V W D;have N:=qH<|h;have M:=qH<|E;have c3:=h.c3;have F:=h.lt;clear h E;go_enter func242,ntmps242;go_wp2;obtain⟨t,a⟩:=ad (w.alloc (.cells #[.string a0,.int .u64 (a1:Int),Iq a2,Iq a3,.bool a4,.func (.func g) #[] #[]] 195));have I:Hid (Bt w t):=by rw[<-a];exact(af _ _).alloc (ae _) _
 have z:Hid (PR t u s i P (.slice Z L.length R) S):=by rw[<-a];exact N.below ((af _ _).alloc (ae _) _)
 have d:=qH<|M.up (Up.below I);have d5:t.cell? (aj w.heap.size 5)=some (.func (.func g) #[] #[]):=by rw[<-a,World.cell?_alloc_at _ _ _ _ rfl];rfl
 have d3:=z.c3;rw[a];clear a c3 F N M;go_loopw[13] (λv wr=>∃j:Nat,v=Iq (j:Int)/\j<=L.length/\Hid (fF (L.take j) k n=false)/\Hid (∃q,wr=t.drewN q)) (λv _=>L.length-(intOf v).toNat);case atStart=>exact⟨0,rfl,aR _,by show fF (L.take 0) k n=false;simp[fF],0,rfl⟩
 case round=>
  obtain⟨j,rfl,hj,K,f⟩:=hrel;have J:Hid (Bt w wr):=by obtain⟨q,rfl⟩:=f.out;exact cX I _
  have ze:wr.cell? (aj w.heap.size 5)=some (.func (.func g) #[] #[]):=by obtain⟨q,rfl⟩:=f.out;exact d5
  have zc:wr.cell? (aj u 3)=some (.slice Z L.length R):=by obtain⟨q,rfl⟩:=f.out;exact d3
  by_cases b:j<L.length
  ·have m:(j:Int)<(L.length:Int):=dg
   obtain⟨bl,za,Y,zg,zh,_,_⟩:=d.nr.form dg;simp only[Am,true_and]at Y;obtain⟨rfl,rfl⟩:=Y;have l:=d.nr.cells bl rfl j b (k+1) _ (DJ (by rw[d.len j b];exact X));have Q:wr.cell? (aj bl (j*16+(k+1)))=some (Iq ((aa L j).attr[k]?.getD 0)):=by obtain⟨q,rfl⟩:=f.out;exact l
   clear l;obtain⟨x,G⟩:=ad ((aa L j).attr[k]?.getD 0);have O:=qH<|G;rw[G]at Q;clear G;have zb:wr.cell? (aj bl (j*16+k+1))=some (Iq x):=Q;by_cases o:x=n
   ·have C:(x==n)=true:=by simpa using o
    have A:=qH<|any_at L k j n b (by rw[O.out];exact C);go_wp2_with fail;go_quiet(first|(go_at_fn g;exact Calls.quiet_of_same (r.2 _ _ _)));go_wp2;go_ret;exact⟨by rw[A.out];rfl,cX J _⟩
   ·have C:(x==n)=false:=by simpa using o
    have y:=qH<|any_take_succ L k j n b K (by rw[O.out];exact C);go_wp2_with fail;go_quiet(first|(go_at_fn g;exact Calls.quiet_of_same (r.2 _ _ _)));go_wp2;go_roundw;case rel=>exact⟨j+1,by go_num,dg,y,by obtain⟨q,rfl⟩:=f.out;exact⟨q+nq,by simp_all⟩⟩
    case measure=>simp[intOf];omega
  ·have m:¬(j:Int)<(L.length:Int):=dg
   obtain rfl:j=L.length:=dg;have A:Hid (fF L k n=false):=by have:=K.out;rw[io]at this;exact this
   go_wp2;go_ret;exact⟨by rw[A.out];rfl,J⟩
def tb(L:List Nd)(k:Nat)(n:Int):Bool:=pH k&&(n !=mD k)&&fF L k n
def Co(L:List Nd)(k:Nat)(n:Int)(rg tw:Addr):Value:=if me k<n then bi rg else if tb L k n=true then bi tw else .nilIface
def setL(L:List Nd)(j k:Nat)(n:Int):List Nd:=if me k<n\/tb L k n=true then L else L.modify j λd=>{d with attr:=d.attr.set k n}
def uJ(w w':World)(e:Ending)(rb B:Nat)(s:ByteArray)(i:Nat)(av nv fv:Value)(L:List Nd)(KV:Nat->Value)(j k:Nat)(n:Int)(rg tw:Addr)(bl:Nat):Prop:=
 w.grownBy w' (some bl)/\e=Rw (Co L k n rg tw)/\PR w' rb s i av nv fv/\PN w' B nv (setL L j k n) KV/\Fr B rb w w'/\B<=w'.heap.size
theorem MC(c B:Nat)(s:ByteArray)(i:Nat)(v x:Value)(L:List Nd)(u:Nat->Value)(bl b j k:Nat)(X:k<12)(n:Int)(rg tw:Addr)(w:World)(h:PR w c s i v (Sq bl L.length b) x)(hn:PN w B (Sq bl L.length b) L u)(hL:L.length<=100000)(hj:j<L.length)(zi:c<B)(V:B<=w.heap.size)(zo:3<B)(zq:4<B)(zu:3≠c)(zv:4≠c)(U:w.cell? (aj 4 0)=some (bi rg))(H:w.cell? (aj 3 0)=some (bi tw)):
 Cw 218 #[Pq c,.pointer (some (aj bl (j*16))),rL k,Iq n] w λe w'=>uJ w w' e c B s i v (Sq bl L.length b) x L u j k n rg tw bl:=by
 have E:=qH<|in_at k X;have S:Hid (∀W,PR W c s i v (Sq bl L.length b) x->PN W B (Sq bl L.length b) L u->Cw 242 #[Pq c,rL k,Iq n] W λe w'=>e=Rw (.bool (fF L k n))/\Bt W w'):=λW h1 J=>pI c B s i v _ x L u k X n W h1 J hL;unfold rL at S⊢;have R:Hid (Co L k n rg tw=if me k<n then bi rg else if(pH k&&(n !=mD k)&&fF L k n)=true then bi tw else .nilIface):=rfl;have Y:Hid (setL L j k n=if me k<n\/(pH k&&(n !=mD k)&&fF L k n)=true then L else L.modify j λd=>{d with attr:=d.attr.set k n}):=rfl;obtain⟨g,hg⟩:=ad (u_ k);obtain⟨a0,h0⟩:=ad (gK k);obtain⟨a1,h1⟩:=ad (mV k);obtain⟨A,J⟩:=ad (me k);obtain⟨t,h3⟩:=ad (mD k);obtain⟨C,h4⟩:=ad (pH k);obtain⟨hh,h5⟩:=ad (fF L k n);rw[hg,h0,h1,J,h3,h4]at S⊢;rw[h5]at S;rw[J,h3,h4,h5]at R Y;rw[hg]at E;have eg:=E.1;clear h0 h1 J h3 h4 h5 hg;have Z:=qH<|h;have r:=qH<|hn;have zn:=(hn.nr.row.choose_spec.lt bl rfl).1;clear h hn;have G:w.cell? (aj 4 0)=some (.iface 376 (.pointer (some rg))):=U;have I:w.cell? (aj 3 0)=some (.iface 376 (.pointer (some tw))):=H;have ER:=qH<|G;have ET:=qH<|I;clear U H G I;obtain⟨bx,ze⟩:∃z:Obj,(.cells #[.string a0,.int .u64 (a1:Int),Iq A,Iq t,.bool C,.func (.func g) #[] #[]] 195)=z:=⟨_,rfl⟩;have Q:Hid (Bt w (w.alloc (.cells #[.string a0,.int .u64 (a1:Int),Iq A,Iq t,.bool C,.func (.func g) #[] #[]] 195))):=(af _ _).alloc (ae _) _;clear ze bx;have M:=(r.nr.row.choose_spec.lt bl rfl).2;have zg:3<w.heap.size:=dg
 have zr:4<w.heap.size:=dg;have zt:c<w.heap.size:=dg;have T:=r.nr.cells bl rfl j hj (k+1) _ (DJ (by rw[r.len j hj];exact X));obtain⟨x0,P⟩:=ad ((aa L j).attr[k]?.getD 0);rw[P]at T;have za:w.cell? (aj bl (j*16+k+1))=some (Iq x0):=T;have cf:w.frozen? (aj bl (j*16+(k+1)))=false:=r.nr.frz rfl _;have zb:w.frozen? (aj bl (j*16+k+1))=false:=r.nr.frz rfl _;clear P;have D:Hid (∀(l:World),Bt w l->¬A<n->(C&&(n !=t)&&hh)=false->uJ w (l.setCell (aj bl (j*16+(k+1))) (Iq n)) (.returned .nilIface) c B s i v (Sq bl L.length b) x L u j k n rg tw bl):=λl a c1 c2=>by
  have zh:=r.up (Up.below (B:=B) a);refine⟨gr_trans (eh a) (bF l bl _ _),by rw[R.out,if_neg c1,c2];rfl,PR.far (Z.below a) (bF l bl _ _) (λq e=>rd) zi,?_,(Fr.below a V).trans (Fr.own (bF l bl _ _) (aF V a.size) (λq e=>rd)),?_⟩;·rw[Y.out,if_neg rd];have:=zh.setAttr hj X n;omega
  ·have:=a.size;simp;omega
 have m:Hid (∀(o:Obj),¬A<n->(C&&(n !=t)&&hh)=false->uJ w ((w.setCell (aj bl (j*16+(k+1))) (Iq n)).alloc o) (.returned .nilIface) c B s i v (Sq bl L.length b) x L u j k n rg tw bl):=λo c1 c2=>by obtain⟨e0,e1,e2,e3,e4,e5⟩:=D w (af _ _) c1 c2;have a:Below (w.setCell (aj bl (j*16+(k+1))) (Iq n)).heap.size (w.setCell (aj bl (j*16+(k+1))) (Iq n)) ((w.setCell (aj bl (j*16+(k+1))) (Iq n)).alloc o):=(af _ _).alloc (ae _) _;exact⟨gr_trans e0 (eh a),e1,e2.below a,e3.up (Up.below a),e4.trans (Fr.below a e5),aF e5 a.size⟩
 have F:Hid (∀(l:World),Bt w l->(A<n\/(C&&(n !=t)&&hh)=true)->uJ w l (.returned (Co L k n rg tw)) c B s i v (Sq bl L.length b) x L u j k n rg tw bl):=λl a c1=>
  ⟨eh a,rfl,Z.below a,by rw[Y.out,if_pos c1];exact r.up (Up.below a),Fr.below a V,aF V a.size⟩;have U:=ER.out;have H:=ET.out;by_cases c1:A<n
 ·have HV:Hid (Co L k n rg tw=.iface 376 (.pointer (some rg))):=by show _=_;rw[R.out,if_pos c1];rfl
  have d1:=decide_eq_true c1;go_enter func218,ntmps218;go_wp2;go_ret;have:=F _ Q (.inl c1);rw[HV.out]at this;exact this
 ·have d1:=decide_eq_false c1;cases K:C with
  |false=>subst K;go_enter func218,ntmps218;go_wp2_with(first|(go_at_fn g;refine(E.2 _ _ _).mono ?_;rintro e w2 ⟨rfl,O⟩;obtain rfl:=O.symm));go_ret;exact m _ dg rfl
  |true=>
   subst K;by_cases c2:n=t
   ·subst c2;have e2:(n !=n)=false:=rn
    have zc:(n==n)=true:=rn;go_enter func218,ntmps218;go_wp2_with(first|(go_at_fn g;refine(E.2 _ _ _).mono ?_;rintro e w2 ⟨rfl,O⟩;obtain rfl:=O.symm));go_ret;exact m _ dg rd
   ·have e2:(n !=t)=true:=by simpa using c2
    have zc:(n==t)=false:=by simpa using c2
    have CS:=qH<|S _ (Z.below Q) (r.up (Up.below Q));go_enter func218,ntmps218;go_wp2_with fail;refine CS.mono ?_;rintro e w2 ⟨rfl,y⟩;have f:=qH<|Q.trans (y.mono rn);have d5:w2.cell? (aj w.heap.size 5)=some (.func (.func g) #[] #[]):=(y.cell (p:=(aj w.heap.size 5)) rn).trans (by simp_all);have zm:=(f.cell (p:=(aj 3 0)) zg).trans H;have zk:=(f.cell (p:=(aj bl (j*16+(k+1)))) M).trans T;have zl:=(f.frozen (p:=(aj bl (j*16+(k+1)))) M).trans cf;clear y CS H U T za cf zb;cases N:hh with
    |true=>
     subst N;have HV:Hid (Co L k n rg tw=.iface 376 (.pointer (some tw))):=by show _=_;rw[R.out,if_neg dg,if_pos rd];rfl
     go_wp2;go_ret;have:=F _ f (.inr rd);rw[HV.out]at this;exact this
    |false=>subst N;go_wp2_with(first|(go_at_fn g;refine(E.2 _ _ _).mono ?_;rintro e w3 ⟨rfl,O⟩;obtain rfl:=O.symm));go_ret;exact D _ f dg rd
def dY(name:ByteArray)(kind:Nat):Nat->Nat->Option Nat
 |0,_=>none
 |f+1,j=>if gK j=name/\QF (mV j) kind=true then some j else dY name kind f (j+1)
def sB:Value:=.agg #[.string ⟨#[]⟩,.int .u64 0,Iq 0,Iq 0,.bool false,.nilFunc]
def qm(name:ByteArray)(kind:Nat)(ws:List ByteArray)(no tw:Addr):Value:=match dY name kind 12 0 with
 |none=>.tuple #[sB,bi no]
 |some j=>if 0<=aI ws name 0 then .tuple #[sB,bi tw]else .tuple #[rL j,.nilIface]
theorem b9{fn:Func}{p u}{c}(h:fn.results=#[.cell p c,.tmp u])a P w g b(hp:a.getD p undef=Pq g)(d:(loadVar c (aj g 0)).run P w=.ok (.agg b) w):
 (results fn a).run P w=.ok (.tuple #[.agg b,a.getD u undef]) w:=by rw[results_cell_tmp h,hp];simp[asAddr,d]
theorem yB{W:World}{b}{T}{f g i j k l}(h:W.heap[b]?=some (.cells #[f,g,i,j,k,l] T (0,0)))a v1 v2 c d e:
 ((((((W.setCell (aj b 0) a).setCell (aj b 1) v1).setCell (aj b 2) v2).setCell (aj b 3) c).setCell (aj b 4) d).setCell (aj b 5) e).heap[b]?=some (.cells #[a,v1,v2,c,d,e] T (0,0)):=
 heap_setCell_same _ b 5 _ T _ (heap_setCell_same _ b 4 _ T _ (heap_setCell_same _ b 3 _ T _ (heap_setCell_same _ b 2 _ T _ (heap_setCell_same _ b 1 _ T _ (heap_setCell_same _ b 0 _ T _ h)))))
theorem Bg(X:World):X.drew.heap=X.heap:=rfl
theorem uf{W:World}{b}{T}{f g i j k l}(h:W.heap[b]?=some (.cells #[f,g,i,j,k,l] T (0,0)))a v1 v2 c d e:
 (((((((W.setCell (aj b 0) a).setCell (aj b 1) v1).setCell (aj b 2) v2).setCell (aj b 3) c).setCell (aj b 4) d).setCell (aj b 5) e).drew).heap[b]?=some (.cells #[a,v1,v2,c,d,e] T (0,0)):=by grind[Bg,yB]
theorem oI{B}{w w'}(h:Below B w w'):Below B w w'.drew:=⟨h.os,h.tape,h.output,h.size,h.block⟩
theorem lY{B b}{W c}(h:Below B W c)(a:B<=b)d v1 v2 e f g:Below B W ((((((c.setCell (aj b 0) d).setCell (aj b 1) v1).setCell (aj b 2) v2).setCell (aj b 3) e).setCell (aj b 4) f).setCell (aj b 5) g):=
 fc (fc (fc (fc (fc (fc h a d) a v1) a v2) a e) a f) a g
theorem kd_four j(a:j<12):mV j=127\/mV j=3\/mV j=8\/mV j=32:=by
 have:j=0\/j=1\/j=2\/j=3\/j=4\/j=5\/j=6\/j=7\/j=8\/j=9\/j=10\/j=11:=dg;rcases this with rfl|rfl|rfl|rfl|rfl|rfl|rfl|rfl|rfl|rfl|rfl|rfl<;>decide
theorem qj.below{W W'}{v}{d}(h:qj W v d)(b:Bt W W'):qj W' v d:=by
 obtain⟨p,c,rfl,rfl|⟨a,rfl,h1,e⟩⟩:=h;·exact⟨p,c,rfl,.inl rfl⟩
 ·exact⟨_,c,rfl,.inr ⟨a,rfl,zz007 h1 b.size,λj f=>(b.cell (p:=(aj a (0+j))) h1).trans (e j f)⟩⟩
theorem attributeOf_any(rb ab:Nat)(s:ByteArray)(i:Nat)(nv Y:Value)(a:Nat)(name:ByteArray)(v:Value)(x:List ByteArray)(B tw:Addr)(w:World)(h:PR w rb s i (Sq ab 12 12) nv Y)(ht:GL w ab)(hk:a<7)(hv:qj w v x)(hn:x.length<=1099511627776)(K:w.cell? (aj 5 0)=some (bi B))(O:w.cell? (aj 3 0)=some (bi tw)):
 Cw 216 #[Pq rb,Iq (a:Int),.string name,v] w λe w'=>e=Rw (qm name a x B tw)/\Bt w w':=by
 have EN:Hid (w.cell? (aj 5 0)=some (.iface 376 (.pointer (some B)))):=K;have ET:Hid (w.cell? (aj 3 0)=some (.iface 376 (.pointer (some tw)))):=O;have zc:5<w.heap.size:=jK w _ K;have zb:3<w.heap.size:=jK w _ O;have HT:=qH<|ht;have HX:=qH<|hv;have c2:=h.c2;have zj:=h.lt;have za:=ht.lt;have HI:=qH<|λn m mo wi sg Y w hm=>IC n m a mo wi sg Y w hm hk;have S:Hid (∀r,dY name a 12 0=r->qm name a x B tw=match r with
  |none=>.tuple #[sB,bi B]
  |some j=>if 0<=aI x name 0 then .tuple #[sB,bi tw]else .tuple #[rL j,.nilIface]):=λr hr=>by grind[qm]
 obtain⟨pv,cv,rfl,_⟩:∃p c,v=.slice p x.length c/\True:=by obtain⟨p,c,e,_⟩:=hv;grind
 clear h ht hv K O;go_enter func216,ntmps216;go_wp2;go_loopw[17] (λu wr=>∃j:Nat,u=Iq (j:Int)/\j<=12/\Hid (dY name a 12 0=dY name a (12-j) j)/\Hid (Bt w wr)/\Hid (wr.heap[w.heap.size]?=some (.cells #[.string ⟨#[]⟩,.int .u64 0,Iq 0,Iq 0,.bool false,.nilFunc] 195 (0,0)))) (λu _=>12-(intOf u).toNat);case atStart=>exact⟨0,rfl,dg,rfl,(af _ _).alloc (ae _) _,heap_alloc_new _ _⟩
 case round=>
  obtain⟨j,rfl,hj,R,F,H⟩:=hrel;have D:=(aD.1 H).1;have K:=(F.cell (p:=(aj 5 0)) zc).trans EN;by_cases L:j<12
  ·have ze:(j:Int)<12:=dg
   have hT:=HT.fr (Fr.below (r:=w.heap.size) F (ae _)) za dg;obtain⟨t0,t1,t2,t3,t4,t5⟩:=hT.at L;have zg:=hT.lt;have G:=qH<|kd_four j L;have f:Hid (dY name a 12 0=if gK j=name/\QF (mV j) a=true then some j else dY name a (12-(j+1)) (j+1)):=by show _=_;rw[R.out,show 12-j=(12-(j+1))+1 by omega];rfl
   have I:Hid (rL j=.agg #[.string (gK j),.int .u64 (mV j:Int),Iq (me j),Iq (mD j),.bool (pH j),.func (.func (u_ j)) #[] #[]]):=rfl;obtain⟨g,hg⟩:=ad (u_ j);obtain⟨t,Z⟩:=ad (gK j);obtain⟨J,h1⟩:=ad (mV j);obtain⟨T,h2⟩:=ad (me j);obtain⟨U,h3⟩:=ad (mD j);obtain⟨V,h4⟩:=ad (pH j);rw[Z]at t0 f;rw[h1]at t1 G f;rw[h2]at t2;rw[h3]at t3;rw[h4]at t4;rw[hg]at t5;rw[Z,h1,h2,h3,h4,hg]at I;clear Z h1 h2 h3 h4 hg hT;by_cases X:t=name;·subst X;have CI:Hid (∀W,Cw 238 #[.agg #[.string t,.int .u64 (J:Int),Iq T,Iq U,.bool V,.func (.func g) #[] #[]],Iq (a:Int)] W λe w'=>e=Rw (.bool (QF J a))/\Bt W w'):=λW=>HI _ _ _ _ _ _ _ G;obtain⟨ok,C⟩:=ad (QF J a);rw[C]at CI;rw[C]at f;clear C;go_wp2_with fail;refine(CI _).mono ?_;rintro e d ⟨rfl,A⟩;have y:=qH<|(F.alloc (Nat.le_of_lt D) _).trans (A.mono (by simp;omega));have z:=qH<|(A.block _ (by simp;omega)).trans ((heap_alloc_old _ _ D).trans H);have Q:Hid (d.heap[wr.heap.size]?=some (.cells #[.string t,.int .u64 (J:Int),Iq T,Iq U,.bool V,.func (.func g) #[] #[]] 195 (0,0))):=(A.block _ rn).trans (heap_alloc_new _ _);clear A t0 t1 t2 t3 t4 t5 K;cases ok with
    |false=>
     have k:Hid (dY t a 12 0=dY t a (12-(j+1)) (j+1)):=by show _=_;rw[f.out,if_neg rn]
     clear f;go_wp2;go_roundw;case rel=>grind
     case measure=>simp[intOf];omega
    |true=>
     have k:Hid (dY t a 12 0=some j):=by show _=_;rw[f.out,if_pos rn]
     clear f;have N:=qH<|contains_any x t _ d (HX.below y) hn;by_cases P:0<=aI x t 0
     ·have o:Hid (qm t a x B tw=.tuple #[sB,bi tw]):=by show _=_;rw[S _ k.out];simp only[if_pos P]
      rw[decide_eq_true P]at N;have O:=(y.cell (p:=(aj 3 0)) zb).trans ET;have b:=z.out;have M:=(aD.1 b).1;have z0:d.cell? (aj w.heap.size 0)=some (.string ⟨#[]⟩):=by simp[World.cell?,b]
      have z1:d.cell? (aj w.heap.size 1)=some (.int .u64 0):=by simp[World.cell?,b]
      have z2:d.cell? (aj w.heap.size 2)=some (Iq 0):=by simp[World.cell?,b]
      have z3:d.cell? (aj w.heap.size 3)=some (Iq 0):=by simp[World.cell?,b]
      have z4:d.cell? (aj w.heap.size 4)=some (.bool false):=by simp[World.cell?,b]
      have z5:d.cell? (aj w.heap.size 5)=some .nilFunc:=by simp[World.cell?,b]
      have zf:∀q,d.frozen? (aj w.heap.size q)=false:=λq=>frozen_of_row _ _ _ _ _ b;clear b;go_wp2_with fail;refine N.mono ?_;rintro e w3 ⟨rfl,E⟩;obtain rfl:=E.symm;go_wp2_with fail;have zh:3≠w.heap.size:=dg
      go_region;all_goals go_wp2;refine bodyPost_ret (b9 rfl _ _ _ w.heap.size _ rfl (run_loadVar_row _ _ _ _ _ _ _ (uf z _ _ _ _ _ _) underlying195 rfl ns)) rfl ?_;exact⟨by rw[o.out];rfl,oI (lY y (ae _) _ _ _ _ _ _)⟩
     ·have o:Hid (qm t a x B tw=.tuple #[rL j,.nilIface]):=by show _=_;rw[S _ k.out];simp only[if_neg P]
      rw[decide_eq_false P]at N;have b:=z.out;have M:=(aD.1 b).1;have z0:d.cell? (aj w.heap.size 0)=some (.string ⟨#[]⟩):=by simp[World.cell?,b]
      have z1:d.cell? (aj w.heap.size 1)=some (.int .u64 0):=by simp[World.cell?,b]
      have z2:d.cell? (aj w.heap.size 2)=some (Iq 0):=by simp[World.cell?,b]
      have z3:d.cell? (aj w.heap.size 3)=some (Iq 0):=by simp[World.cell?,b]
      have z4:d.cell? (aj w.heap.size 4)=some (.bool false):=by simp[World.cell?,b]
      have z5:d.cell? (aj w.heap.size 5)=some .nilFunc:=by simp[World.cell?,b]
      have zf:∀q,d.frozen? (aj w.heap.size q)=false:=λq=>frozen_of_row _ _ _ _ _ b;have l:=Q.out;have y0:d.cell? (aj wr.heap.size 0)=some (.string t):=by simp[World.cell?,l]
      have y1:d.cell? (aj wr.heap.size 1)=some (.int .u64 (J:Int)):=by simp[World.cell?,l]
      have y2:d.cell? (aj wr.heap.size 2)=some (Iq T):=by simp[World.cell?,l]
      have y3:d.cell? (aj wr.heap.size 3)=some (Iq U):=by simp[World.cell?,l]
      have y4:d.cell? (aj wr.heap.size 4)=some (.bool V):=by simp[World.cell?,l]
      have y5:d.cell? (aj wr.heap.size 5)=some (.func (.func g) #[] #[]):=by simp[World.cell?,l]
      clear b l;go_wp2_with fail;refine N.mono ?_;rintro e w3 ⟨rfl,E⟩;obtain rfl:=E.symm;go_wp2;refine bodyPost_ret (b9 rfl _ _ _ w.heap.size _ rfl (run_loadVar_row _ _ _ _ _ _ _ (yB z _ _ _ _ _ _) underlying195 rfl ns)) rfl ?_;exact⟨by rw[o.out,I.out];rfl,lY y (ae _) _ _ _ _ _ _⟩
   ·have e1:=vK X;have k:Hid (dY name a 12 0=dY name a (12-(j+1)) (j+1)):=by show _=_;rw[f.out,if_neg (λh=>X h.1)]
    clear f;go_wp2;go_roundw;case rel=>exact⟨j+1,by go_num,dg,k,F.alloc dg _,(heap_alloc_old _ _ D).trans H⟩
    case measure=>simp[intOf];omega
  ·obtain rfl:j=12:=dg
   have k:Hid (dY name a 12 0=none):=R.out;have o:Hid (qm name a x B tw=.tuple #[sB,bi B]):=by show _=_;rw[S _ k.out]
   have b:=H.out;have z0:wr.cell? (aj w.heap.size 0)=some (.string ⟨#[]⟩):=by simp[World.cell?,b]
   have z1:wr.cell? (aj w.heap.size 1)=some (.int .u64 0):=by simp[World.cell?,b]
   have z2:wr.cell? (aj w.heap.size 2)=some (Iq 0):=by simp[World.cell?,b]
   have z3:wr.cell? (aj w.heap.size 3)=some (Iq 0):=by simp[World.cell?,b]
   have z4:wr.cell? (aj w.heap.size 4)=some (.bool false):=by simp[World.cell?,b]
   have z5:wr.cell? (aj w.heap.size 5)=some .nilFunc:=by simp[World.cell?,b]
   have zf:∀q,wr.frozen? (aj w.heap.size q)=false:=λq=>frozen_of_row _ _ _ _ _ b;have zi:5≠w.heap.size:=dg;clear b R;go_wp2_with fail;go_region;all_goals go_wp2;refine bodyPost_ret (b9 rfl _ _ _ w.heap.size _ rfl (run_loadVar_row _ _ _ _ _ _ _ (uf H _ _ _ _ _ _) underlying195 rfl ns)) rfl ?_;exact⟨by rw[o.out];rfl,oI (lY F (ae _) _ _ _ _ _ _)⟩
