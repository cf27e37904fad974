import Derived.Test.YtehgehanbnkdiaaGreatDoorQ24
import Derived.Deep.CutRange
import Derived.Laws.EntriesVeiled
import Derived.Test.YtehgehanbnkdiaaGreatDoorQ08
set_option linter.all false
set_option maxRecDepth 100000
set_option maxHeartbeats 16000000
namespace Go.Proofs.YtehgehanbnkdiaaGreatDoor
open Go.RowKit Go.Proofs.Tryz
def gd{P}{p}{o}{a}{w}{K}{Q}{E}(T:o.guard=none)s x t(y:o.op=Op.call {callee:=Callee.builtin Builtin.append,args:=#[s,x],argTypes:=#[t,t]})d e i z size bytes(F:P.underlying t=some (.slice e))(G:P.info? e=some i)(H:i.zero=some z)(I:i.size=size)(J:i.bytes=bytes)(M:z.cells.size=size)(O:0<size)v n f(V:a.eval s=v)(k:w.ownsRow d e size v n f)q m c b(Y:a.eval x=.slice (some q) m c)(U:b.length=m*size)(S:∀j u,b[j]?=some u->w.cell? (q.add j)=some u)(r:∀u∈b,u.oneCell'=true)(A:n+m<=maxLen)(C:(n+m)*bytes<=140737488355328)(D:d<=w.heap.size)(R:∀h w',w'.ownsRow d e size h (n+m) (f++b)->w.grownBy w' v.ownBlock->(h.ownBlock=v.ownBlock\/h.ownBlock=some w.heap.size)->K (a.put o.dst h) w'):
 if Region.wanted o (yielded p a.tmps)=true then Oper.wp P o a w K Q else E:=by
 have X:Region.wanted o (yielded p a.tmps)=true:=by simp[Region.wanted,T]
 rw[if_pos X];obtain⟨h,w',l,Z,r2,_,r3⟩:=run_append_own_at (P:=P) w d t o.type e i z size bytes F G H I J M O v n f k q m c b U S r A C D;unfold Oper.wp;simp[execOp,y,resolve,invoke,builtin,V,Y,l,Result.andThen];exact R h w' Z r2 r3
def GU:(prog.info? 140).map (λi=>(i.zero,i.size,i.bytes))=some (some (.agg #[Iq 0,Iq 0,Iq 0,Iq 0,Iq 0,Iq 0,Iq 0,Iq 0,Iq 0,Iq 0,Iq 0,Iq 0,Iq 0,.string ⟨#[]⟩,.slice none 0 0,Iq 0]),16,152):=pt
def dt{W:AT}{B n size}{e}{v}{a}(h:W.ownsRow B e size v n a):∃p c,v=.slice p n c:=by grind[cm]
theorem gP(w:AT)a T b(h:a.toList=b):∀j u,b[j]?=some u->(w.alloc (.cells a T)).cell? (((aq w.heap.size 0):Addr).add j)=some u:=by
 intro j u hu;have e:((aq w.heap.size 0):Addr).add j=(aq w.heap.size (0+j)):=by unfold Addr.add;split<;>simp_all
 rw[e,b_,World.cell?_alloc_at _ _ _ _ rfl,<-hu,<-h];simp
def Pv d p n c:∀u∈aW d (.slice p n c),u.oneCell'=true:=by intro u hu;unfold aW at hu;simp at hu;rcases hu with rfl|⟨x,_,rfl⟩|rfl|rfl|rfl<;>rfl
def PR.far{W b}{o}{a B}{s}{i}{c nv d}(h:PR W a s i c nv d)(l:W.grownBy b o)(m:∀g,o=some g->B<=g)(n:a<B):PR b a s i c nv d:=by have f:=l.block a h.lt (λe=>rn);have k:∀j,b.cell? (aq a j)=W.cell? (aq a j):=λj=>aQ f;exact⟨zz006 h.lt l.size,(k 0).trans h.c0,(k 1).trans h.c1,(k 2).trans h.c2,(k 3).trans h.c3,(k 4).trans h.c4,λj=>(kE f).trans (h.fz j)⟩
def PR.setN{W}{b}{s}{i}{c nv d}(h:PR W b s i c nv d)a:PR (W.setCell (aq b 3) a) b s i c a d:=
 ⟨by simpa using h.lt,aF dg h.c0,aF dg h.c1,aF dg h.c2,ff h.c3,aF dg h.c4,λj=>by rw[eS];exact h.fz j⟩
def Up.set{B b o}W(d:b<B)v:Up B W (W.setCell (aq b o) v):=⟨At,λk a c=>aM W (aq b o) v k rn⟩
def Fr.set{B r o}W v:Fr B r W (W.setCell (aq r o) v):=⟨rfl,rfl,rfl,At,λk b a=>aM W (aq r o) v k a⟩
def xr:(prog.info? 3).map (λi=>(i.zero,i.size,i.bytes))=some (some (Iq 0),1,8):=pt
def kO(w w':AT)(rb B:Nat)(s:BY)(i:Nat)(av fv:Fd)(L:zza):Prop:=∃nv KV,PR w' rb s i av nv fv/\PN w' B nv L KV/\Fr B rb w w'/\B<=w'.heap.size
def cE{B}{w w'}(h:Below B w w')q:Below B w (w'.drewN q):=⟨h.os,h.tape,h.output,h.size,h.block⟩
def dU{B b o}{w w'}(h:Below B w w')(c:B<=b)v:Below B w (w'.setCell (aq b o) v):=
 ⟨h.os,h.tape,h.output,by simpa using h.size,λk a=>(aM w' (aq b o) v k rn).trans (h.block k a)⟩
def Kl{w wc w3}{f B g r D j c:Nat}{s}{i}{C E h}{p}{m}{A}{x}{d}(R:PR w3 f s i C (Sq g r D) E)(G:PN wc B (Sq g r D) p m)(Q:p.length=r)(K:Fr B f w wc)(y:B<=wc.heap.size)(z:f<B)(I:B<=g)(F:j<r)(O:m j=.slice A d.length x)(P:(ae p j).kids=d)o(T:w3.ownsRow B 3 1 h (d.length+1) (gU d++[Iq (c:Int)]))(M:((wc.alloc o).drew).grownBy w3 (Value.slice A d.length x).ownBlock)(J:h.ownBlock=(Value.slice A d.length x).ownBlock\/h.ownBlock=some ((wc.alloc o).drew).heap.size):
 kO w (w3.setCell (aq g (j*16+14)) h) f B s i C E (p.modify j λu=>{u with kids:=u.kids++[c]}):=by subst Q;have n:=G.nr.kids j F;rw[O]at n;have b:Bq wc (wc.alloc o).drew:=cE ((ac wc.heap.size wc).alloc LE o) 1;have t:=G.up (Up.below (B:=B) b);have v:=t.kid (k:=j) (c:=c) (W':=w3) (kv':=h) F (by grind[gU]) rn rn;have a:Fr B f wc w3:=(Fr.below b y).trans (Fr.own M (aA y b.size) (λg e=>(n.lt g e).1));have l:Fr B f w3 (w3.setCell (aq g (j*16+14)) h):=Fr.own (cM w3 g _ _) (aA y a.size) (λq e=>rn);exact⟨_,_,PR.far R (cM w3 g _ _) (λq e=>rn) z,v,K.trans (a.trans l),by have:=a.size;have:=l.size;omega⟩
def Fa(w w':AT)(rb B:Nat)(s:BY)(i:Nat)(av fv:Fd)(L:zza)(KV:Nat->Fd):Prop:=∃p c,PR w' rb s i av (.slice p L.length c) fv/\PN w' B (.slice p L.length c) L (λj=>if j=L.length-1 then .slice none 0 0 else KV j)/\Fr B rb w w'/\B<=w'.heap.size
def uB(kind:Nat)(up:Int)(k t:Nat):Fd:=if t=0 then Iq (kind:Int)else if t<=k then Iq (li (t-1))else if t<=12 then Iq 0 else if t=13 then .string ⟨#[]⟩else if t=14 then .slice none 0 0 else Iq up
def Ft{a}{up}{k}(b:k<12):uB a up (k+1) (k+1)=Iq (li k):=by grind[uB]
def Fu{a}{up}{k t}(h:t≠k+1):uB a up (k+1) t=uB a up k t:=by grind[uB]
def ya{a:Nat}{up}{w:AT}{T}t(b:t<16):(w.alloc (.cells #[Iq (a:Int),Iq 0,Iq 0,Iq 0,Iq 0,Iq 0,Iq 0,Iq 0,Iq 0,Iq 0,Iq 0,Iq 0,Iq 0,.string ⟨#[]⟩,.slice none 0 0,Iq up] T)).cell? (aq w.heap.size t)=some (uB a up 0 t):=by rw[World.cell?_alloc_at _ _ _ _ rfl];have:t=0\/t=1\/t=2\/t=3\/t=4\/t=5\/t=6\/t=7\/t=8\/t=9\/t=10\/t=11\/t=12\/t=13\/t=14\/t=15:=dg;rcases this with rfl|rfl|rfl|rfl|rfl|rfl|rfl|rfl|rfl|rfl|rfl|rfl|rfl|rfl|rfl|rfl<;>rfl
def uD(l ab B:Nat)(s:BY)(i:Nat)(nv P:Fd)(L:zza)(KV:Nat->Fd)(a:Nat)(up:Int)(w:AT)(h:PR w l s i (Sq ab 12 12) nv P)(hn:PN w B nv L KV)(ht:Fq w ab)(J:l<B)(_Q:ab<B)(zJ:ab≠l)(hB:B<=w.heap.size)(hL:L.length<=100000)(zL:up=-1\/(0<=up/\up<L.length))(zI:∀j M,j<L.length->(ae L j).kids=M->M.length<=100000000):
 Cw 163 #[Pq l,Iq (a:Int),Iq up] w λe w'=>e=Rw (Iq (L.length:Int))/\kO w w' l B s i (Sq ab 12 12) P (grown L ⟨a,aJ,[],[],up⟩):=by
 obtain⟨pn,cn,rfl⟩:∃p c,nv=.slice p L.length c:=dt hn.nr.row.choose_spec;have HR:=qH<|h;have HN:=qH<|hn;have HT:=qH<|ht;have c2:=h.c2;have zK:=h.lt;have zF:=ht.lt;obtain⟨i0,hi,zQ,zR,zS⟩:=info_parts GU;clear h hn ht;go_enter func163,ntmps163;go_wp2;go_loopw[19] (λv wr=>∃k:Nat,v=Iq (k:Int)/\k<=12/\w.heap.size<wr.heap.size/\Hid (Bq w wr)/\Hid (∀t,t<16->wr.cell? (aq w.heap.size t)=some (uB a up k t)/\wr.frozen? (aq w.heap.size t)=false)) (λv _=>12-(intOf v).toNat);.exact⟨0,rfl,dg,At,No,λt ht=>⟨ya t ht,frozen_of_row _ _ _ _ _ (heap_alloc_new _ _)⟩⟩
 obtain⟨k,rfl,hk,QZ,O,f⟩:=hrel;by_cases Z:k<12;.have zV:(k:Int)<12:=dg;have hT:=HT.fr (Fr.below (r:=l) O LE) zF zJ;obtain⟨t0,t1,t2,t3,t4,t5⟩:=hT.at Z;have XT:=hT.lt;obtain⟨d1,f1⟩:=f (k+1) dg;have HQ:=qH<|in_at k Z;obtain⟨g,x⟩:=af (tC k);obtain⟨a0,h0⟩:=af (fJ k);obtain⟨a1,h1⟩:=af (lK k);obtain⟨a2,h2⟩:=af (k6 k);obtain⟨a3,h3⟩:=af (li k);obtain⟨a4,h4⟩:=af (ou k);rw[h0]at t0;rw[h1]at t1;rw[h2]at t2;rw[h3]at t3;rw[h4]at t4;rw[x]at t5 HQ;have H3:=qH<|h3;obtain⟨x1,zn⟩:=af (uB a up k (k+1));rw[zn]at d1;have eg:=HQ.1;clear h0 h1 h2 h3 h4 x hT zn;go_wp2_with fail;go_region_with(go_at_fn g;refine Ut (HQ.2 _ _ _) ?_;rintro w2 rfl);all_goals
   go_wp2;go_roundw
   .refine⟨k+1,by go_num,dg,by simp;omega,?_,λt ht=>?_⟩;.exact cE (Below.alloc (dU O LE _) (by simp;omega) _) 1
    .have hb:∀(o:Obj) (u:Fd),(((wr.setCell (aq w.heap.size (k+1)) u).alloc o).drew).heap[w.heap.size]?=(wr.setCell (aq w.heap.size (k+1)) u).heap[w.heap.size]?:=λo u=>by show((wr.setCell (aq w.heap.size (k+1)) u).alloc o).heap[w.heap.size]?=_;exact heap_alloc_old _ _ (by simp;omega)
     refine⟨?_,?_⟩
     .rw[aQ (hb _ _)];by_cases e:t=k+1;.subst e;rw[ff (f (k+1) ht).1,Ft Z,H3.out]
      .rw[aF e (f t ht).1,Fu e]
     .rw[kE (hb _ _),eS];exact(f t ht).2
   .simp[intOf];omega
 .obtain rfl:k=12:=dg;have n0:wr.cell? (aq w.heap.size 0)=some (Iq (a:Int)):=(f 0 dg).1;have n1:wr.cell? (aq w.heap.size 1)=some (Iq 0):=(f 1 dg).1;have n2:wr.cell? (aq w.heap.size 2)=some (Iq 0):=(f 2 dg).1;have n3:wr.cell? (aq w.heap.size 3)=some (Iq (-1)):=(f 3 dg).1;have n4:wr.cell? (aq w.heap.size 4)=some (Iq 1):=(f 4 dg).1;have n5:wr.cell? (aq w.heap.size 5)=some (Iq 0):=(f 5 dg).1;have n6:wr.cell? (aq w.heap.size 6)=some (Iq 0):=(f 6 dg).1;have n7:wr.cell? (aq w.heap.size 7)=some (Iq 1):=(f 7 dg).1;have n8:wr.cell? (aq w.heap.size 8)=some (Iq 0):=(f 8 dg).1;have n9:wr.cell? (aq w.heap.size 9)=some (Iq 1):=(f 9 dg).1;have zq:wr.cell? (aq w.heap.size 10)=some (Iq 0):=(f 10 dg).1;have zr:wr.cell? (aq w.heap.size 11)=some (Iq 0):=(f 11 dg).1;have zt:wr.cell? (aq w.heap.size 12)=some (Iq 0):=(f 12 dg).1;have zu:wr.cell? (aq w.heap.size 13)=some (.string ⟨#[]⟩):=(f 13 dg).1;have zv:wr.cell? (aq w.heap.size 14)=some (.slice none 0 0):=(f 14 dg).1;have zw:wr.cell? (aq w.heap.size 15)=some (Iq up):=(f 15 dg).1;have y:=qH<|HR.belowB O zK;have C:=qH<|HN.up (Up.below O);have r3:=y.c3;have S:=y.lt;have zm:l≠wr.heap.size:=dg;obtain⟨xs,hxs⟩:=C.nr.row;have HX:=qH<|hxs;clear hxs c2;go_wp2_with fail;go_cut[10]from 35 to 44 (λv wx=>v=Iq (L.length:Int)/\Hid (Fa w wx l B s i (Sq ab 12 12) P (L++[⟨a,aJ,[],[],up⟩]) KV));.go_region_law(refine gd rfl (.tmp 39) (.tmp 41) 78 rfl B 140 i0 _ 16 152 underlying78 hi zQ zR zS rfl (by decide) (.slice pn L.length cn) L.length xs (by simp[Act.eval]) (qG (w:=wr.drew) HX _) _ 1 1 (aW ⟨a,aJ,[],[],up⟩ (.slice none 0 0)) (by simp[Act.eval]) rfl (gP _ _ _ _ rfl) (Pv _ _ _ _) (by unfold maxLen;omega) dg (by simp;omega) ?_;intro v' w1 b x G;obtain⟨p',c',ze⟩:=dt b;subst ze;have E:=qH<|PR.far ((y.drewN 1).below No) x (λg e=>(HX.lt g e).1) J;have k3:=E.c3;have kf:=E.fz 3);all_goals
    have hzr:=O.size;have zi:=qH<|PN.app (C.up (Up.below (cE (Ok.alloc At _) 1))) (qG (w:=wr.drew) HX _) b x rfl rfl;have zg:Hid (Fr B l w w1):=(Fr.below O hB).trans ((Fr.below (cE ((ac wr.heap.size wr).alloc At _) 1) dg).trans (Fr.own x (by simp;omega) (λg e=>(HX.lt g e).1)));obtain⟨w2,K⟩:=af (w1.setCell (aq l 3) (.slice p' (L.length+1) c'));have U:Hid (PR w2 l s i (Sq ab 12 12) (.slice p' (L.length+1) c') P):=by rw[<-K];exact E.setN _
    have D:Hid (PN w2 B (.slice p' (L.length+1) c') (L++[⟨a,aJ,[],[],up⟩]) (λj=>if j=L.length then .slice none 0 0 else KV j)):=by rw[<-K];exact zi.up (Up.set _ J _)
    have A:Hid (Fr B l w w2):=by rw[<-K];exact zg.trans (Fr.set _ _)
    have F:B<=w2.heap.size:=by have:=A.size;omega
    rw[K];clear x b G k3 kf E zi zg HX C y r3 S zm n0 n1 n2 n3 n4 n5 n6 n7 n8 n9 zq zr zt zu zv zw f O;have HM:Hid (Fa w w2 l B s i (Sq ab 12 12) P (L++[⟨a,aJ,[],[],up⟩]) KV):=⟨p',c',by simpa using U.out,by simpa using D.out,A,F⟩;go_wp2;go_meet;grind
  obtain⟨rfl,HM⟩:=hcut;clear n0 n1 n2 n3 n4 n5 n6 n7 n8 n9 zq zr zt zu zv zw HX C y r3 S zm f O HR HN HT;obtain⟨L1,n⟩:=af (L++[(⟨a,aJ,[],[],up⟩:Nd)]);rw[n]at HM;have hl1:L1.length=L.length+1:=by rw[<-n];simp
  obtain⟨p',c',m,d,H,F⟩:=HM.out;rw[hl1]at m d;have U:=qH<|m;have A:=qH<|H;rcases zL with rfl|⟨hu0,VJ⟩
  .have HO:Hid (kO w wc l B s i (Sq ab 12 12) P (grown L ⟨a,aJ,[],[],-1⟩)):=by
    have zl:grown L ⟨a,aJ,[],[],-1⟩=L1:=by unfold grown;rw[if_pos rn];exact n
    rw[zl];exact⟨_,_,m,d,H,F⟩
   clear d m H HM;go_wp2;go_ret;exact⟨rfl,HO⟩
  .obtain⟨j,rfl⟩:∃j:Nat,up=(j:Int):=⟨up.toNat,dg⟩;have hj:j<L.length:=dg;have zx:Hid (grown L ⟨a,aJ,[],[],(j:Int)⟩=L1.modify j λu=>{u with kids:=u.kids++[L.length]}):=qH<|by rw[<-n];exact gT L _ j rfl hj
   have zH:(ae L1 j).kids.length<=100000000:=by rw[<-n,bF hj];exact zI j _ hj rfl
   obtain⟨zC,Q⟩:=af (fun(q:Nat)=>if q=L.length+1-1 then Value.slice none 0 0 else KV q);rw[Q]at d;clear Q n HM;obtain⟨g,zZ,hv,zE,zk,_,_⟩:=d.nr.form dg;simp only[hl1,sK,true_and]at hv;obtain⟨rfl,rfl⟩:=hv;have Y:j<L1.length:=dg;have z:=d.nr.kids j Y;have R:=d.len j Y;obtain⟨pk,ck,hk⟩:=dt z;obtain⟨M,I⟩:=af ((ae L1 j).kids);rw[hk,I]at z;rw[I]at hk zH;have T:=qH<|z;have zj:wc.cell? (aq g (j*16+14))=some (.slice pk M.length ck):=by rw[<-hk];exact d.nr.cells g rfl j Y 14 (zC j) (MC R)
   have zh:Hid (some g≠(Value.slice pk M.length ck).ownBlock):=by
    obtain⟨ys,zP⟩:=d.nr.row;rcases dJ (v':=Sq g (L.length+1) c') z zP (by decide)with e|e;.grind
    .exact λe2=>e e2.symm
   have zl:g≠l:=dg;have f14:wc.frozen? (aq g (j*16+14))=false:=d.nr.frz rfl (j*16+14);have d3:=m.c3;have Yl:(j:Int)<((L.length+1:Nat):Int):=dg;have Vp:(j:Int)<(L.length:Int)+1:=dg;have _n:((j:Int)!=-1)=true:=by rw[bne_iff_ne];omega
   have zX:=m.lt;have D:=qH<|d;have zy:=qH<|hk;have zA:=qH<|I;have zB:=qH<|hl1;obtain⟨i1,zG,zM,zN,zO⟩:=info_parts xr;clear z d hk I m H R hl1;go_wp2_with fail;go_cut[10]from 47 to 64 (λv wx=>v=Iq (L.length:Int)/\Hid (kO w wx l B s i (Sq ab 12 12) P (grown L ⟨a,aJ,[],[],(j:Int)⟩)));.go_region_law(refine gd rfl (.tmp 59) (.tmp 61) 26 rfl B 3 i1 (Iq 0) 1 8 underlying26 zG zM zN zO rfl (by decide) (.slice pk M.length ck) M.length (gU M) (by simp[Act.eval]) (qG (w:=wc.drew) T _) _ 1 1 [Iq (L.length:Int)] (by simp[Act.eval]) rfl (gP _ _ _ _ rfl) (by intro u hu;simp at hu;subst hu;rfl) (by unfold maxLen;omega) dg (by simp;omega) ?_;intro v' w3 b x G;obtain⟨zU,zD,ze⟩:=dt b;subst ze;have V:=qH<|PR.far ((U.drewN 1).below No) x (λg e=>(T.lt g e).1) J;have k3:=V.c3;have X:=(x.block g (zz006 zk At) zh).trans (heap_alloc_old _ _ zk);have zT:=(aQ X).trans zj;have zo:=(kE X).trans f14);all_goals
     have HO:Hid (kO w (w3.setCell (aq g (j*16+14)) (.slice zU (M.length+1) zD)) l B s i (Sq ab 12 12) P (grown L ⟨a,aJ,[],[],(j:Int)⟩)):=by rw[zx.out];exact Kl V D zB A F J zE dg zy zA _ b x G
     clear V x G b k3 X zT zo;go_wp2_with fail;go_meet;exact⟨rfl,HO⟩
   obtain⟨rfl,HO⟩:=hcut;clear T zj f14 d3 D;go_wp2;go_ret;exact⟨rfl,HO⟩
def eD(L:zza)(k:Nat)(n:Int):Bool:=L.any λd=>d.attr[k]?.getD 0==n
def yr L n:eD L 0 n=em L n:=rfl
def any_take_succ L k j n(a:j<L.length)(h:eD (L.take j) k n=false)(b:((ae L j).attr[k]?.getD 0==n)=false):eD (L.take (j+1)) k n=false:=by unfold eD at*;rw[List.take_add_one,JK,h];grind[ae]
def any_at L k j n(a:j<L.length)(b:((ae L j).attr[k]?.getD 0==n)=true):eD L k n=true:=by grind[eD,ae]
def qh(k:Nat):Fd:=.agg #[.string (fJ k),.int .u64 (lK k:Int),Iq (k6 k),Iq (li k),.bool (ou k),.func (.func (tC k)) #[] #[]]
def ow(u B:Nat)(s:BY)(i:Nat)(P nv S:Fd)(L:zza)(KV:Nat->Fd)(k:Nat)(Z:k<12)(n:Int)(w:AT)(h:PR w u s i P nv S)(E:PN w B nv L KV)(hL:L.length<=100000):
 Cw 316 #[Pq u,qh k,Iq n] w λe w'=>e=Rw (.bool (eD L k n))/\Bq w w':=by
 obtain⟨pn,R,rfl⟩:∃p c,nv=.slice p L.length c:=dt E.nr.row.choose_spec;have r:=qH<|in_at k Z;unfold qh;obtain⟨g,D⟩:=af (tC k);obtain⟨a0,T⟩:=af (fJ k);obtain⟨a1,U⟩:=af (lK k);obtain⟨a2,V⟩:=af (k6 k);obtain⟨a3,X⟩:=af (li k);obtain⟨a4,Y⟩:=af (ou k);rw[D,T,U,V,X,Y];rw[D]at r;have eg:=r.1;clear T U V X Y D;have M:=qH<|h;have K:=qH<|E;have c3:=h.c3;have F:=h.lt;clear h E;go_enter func316,ntmps316;go_wp2;obtain⟨t,a⟩:=af (w.alloc (.cells #[.string a0,.int .u64 (a1:Int),Iq a2,Iq a3,.bool a4,.func (.func g) #[] #[]] 259));have H:Hid (Bq w t):=by rw[<-a];exact No
 have z:Hid (PR t u s i P (.slice pn L.length R) S):=by rw[<-a];exact M.below No
 have d:=qH<|K.up (Up.below H);have d5:t.cell? (aq w.heap.size 5)=some (.func (.func g) #[] #[]):=by rw[<-a,World.cell?_alloc_at _ _ _ _ rfl];rfl
 have d3:=z.c3;rw[a];clear a c3 F M K;go_loopw[13] (λv wr=>∃j:Nat,v=Iq (j:Int)/\j<=L.length/\Hid (eD (L.take j) k n=false)/\Hid (∃q,wr=t.drewN q)) (λv _=>L.length-(intOf v).toNat);.exact⟨0,rfl,LT,by show eD (L.take 0) k n=false;simp[eD],0,rfl⟩
 obtain⟨j,rfl,hj,J,f⟩:=hrel;have I:Hid (Bq w wr):=by obtain⟨q,rfl⟩:=f.out;exact cE H _
 have zi:wr.cell? (aq w.heap.size 5)=some (.func (.func g) #[] #[]):=by obtain⟨q,rfl⟩:=f.out;exact d5
 have zh:wr.cell? (aq u 3)=some (.slice pn L.length R):=by obtain⟨q,rfl⟩:=f.out;exact d3
 by_cases b:j<L.length
 .have m:(j:Int)<(L.length:Int):=dg;obtain⟨bl,ze,hv,zj,zk,_,_⟩:=d.nr.form dg;simp only[sK,true_and]at hv;obtain⟨rfl,rfl⟩:=hv;have l:=d.nr.cells bl rfl j b (k+1) _ (BW (by rw[d.len j b];exact Z));have Q:wr.cell? (aq bl (j*16+(k+1)))=some (Iq ((ae L j).attr[k]?.getD 0)):=by obtain⟨q,rfl⟩:=f.out;exact l
  clear l;obtain⟨x,G⟩:=af ((ae L j).attr[k]?.getD 0);have O:=qH<|G;rw[G]at Q;clear G;have zg:wr.cell? (aq bl (j*16+k+1))=some (Iq x):=Q;by_cases o:x=n
  .have C:(x==n)=true:=by simpa using o
   have A:=qH<|any_at L k j n b (by rw[O.out];exact C);go_wp2_with fail;go_quiet(first|(go_at_fn g;exact Calls.quiet_of_same (r.2 _ _ _)));go_wp2;go_ret;exact⟨by rw[A.out];rfl,cE I _⟩
  .have C:(x==n)=false:=by simpa using o
   have y:=qH<|any_take_succ L k j n b J (by rw[O.out];exact C);go_wp2_with fail;go_quiet(first|(go_at_fn g;exact Calls.quiet_of_same (r.2 _ _ _)));go_wp2;go_roundw;.exact⟨j+1,by go_num,dg,y,by obtain⟨q,rfl⟩:=f.out;exact⟨q+nq,by simp_all⟩⟩
   .simp[intOf];omega
 .have m:¬(j:Int)<(L.length:Int):=dg;obtain rfl:j=L.length:=dg;have A:Hid (eD L k n=false):=by have:=J.out;rw[jB]at this;exact this
  go_wp2;go_ret;exact⟨by rw[A.out];rfl,I⟩
def setB(L:zza)(k:Nat)(n:Int):Bool:=ou k&&(n !=li k)&&eD L k n
def Ak(L:zza)(k:Nat)(n:Int)(rg tw:Addr):Fd:=if k6 k<n then aT rg else if setB L k n=true then aT tw else .nilIface
def setL(L:zza)(j k:Nat)(n:Int):List Nd:=if k6 k<n\/setB L k n=true then L else L.modify j λd=>{d with attr:=d.attr.set k n}
def s'(w w':AT)(e:Ending)(rb B:Nat)(s:BY)(i:Nat)(av nv fv:Fd)(L:zza)(KV:Nat->Fd)(j k:Nat)(n:Int)(rg tw:Addr)(bl:Nat):Prop:=
 w.grownBy w' (some bl)/\e=Rw (Ak L k n rg tw)/\PR w' rb s i av nv fv/\PN w' B nv (setL L j k n) KV/\Fr B rb w w'/\B<=w'.heap.size
def MW(c B:Nat)(s:BY)(i:Nat)(t u:Fd)(L:zza)(KV:Nat->Fd)(bl b j k:Nat)(X:k<12)(n:Int)(rg tw:Addr)(w:AT)(h:PR w c s i t (Sq bl L.length b) u)(hn:PN w B (Sq bl L.length b) L KV)(hL:L.length<=100000)(hj:j<L.length)(zl:c<B)(V:B<=w.heap.size)(zt:3<B)(zu:4<B)(zx:3≠c)(zy:4≠c)(T:w.cell? (aq 4 0)=some (aT rg))(F:w.cell? (aq 3 0)=some (aT tw)):
 Cw 282 #[Pq c,.pointer (some (aq bl (j*16))),qh k,Iq n] w λe w'=>s' w w' e c B s i t (Sq bl L.length b) u L KV j k n rg tw bl:=by
 have C:=qH<|in_at k X;have R:Hid (∀W,PR W c s i t (Sq bl L.length b) u->PN W B (Sq bl L.length b) L KV->Cw 316 #[Pq c,qh k,Iq n] W λe w'=>e=Rw (.bool (eD L k n))/\Bq W w'):=λW U H=>ow c B s i t _ u L KV k X n W U H hL;unfold qh at R|-;have Q:Hid (Ak L k n rg tw=if k6 k<n then aT rg else if(ou k&&(n !=li k)&&eD L k n)=true then aT tw else .nilIface):=rfl;have Y:Hid (setL L j k n=if k6 k<n\/(ou k&&(n !=li k)&&eD L k n)=true then L else L.modify j λd=>{d with attr:=d.attr.set k n}):=rfl;obtain⟨g,hg⟩:=af (tC k);obtain⟨a0,h0⟩:=af (fJ k);obtain⟨a1,U⟩:=af (lK k);obtain⟨x,H⟩:=af (k6 k);obtain⟨r,h3⟩:=af (li k);obtain⟨y,h4⟩:=af (ou k);obtain⟨hh,h5⟩:=af (eD L k n);rw[hg,h0,U,H,h3,h4]at R|-;rw[h5]at R;rw[H,h3,h4,h5]at Q Y;rw[hg]at C;have eg:=C.1;clear h0 U H h3 h4 h5 hg;have Z:=qH<|h;have m:=qH<|hn;have zr:=(hn.nr.row.choose_spec.lt bl rfl).1;clear h hn;have E:w.cell? (aq 4 0)=some (.iface 460 (.pointer (some rg))):=T;have G:w.cell? (aq 3 0)=some (.iface 460 (.pointer (some tw))):=F;have ER:=qH<|E;have ET:=qH<|G;clear T F E G;obtain⟨bx,zi⟩:∃z:Obj,(.cells #[.string a0,.int .u64 (a1:Int),Iq x,Iq r,.bool y,.func (.func g) #[] #[]] 259)=z:=⟨_,rfl⟩;have P:Hid (Bq w (w.alloc (.cells #[.string a0,.int .u64 (a1:Int),Iq x,Iq r,.bool y,.func (.func g) #[] #[]] 259))):=No;clear zi bx;have J:=(m.nr.row.choose_spec.lt bl rfl).2;have zj:3<w.heap.size:=dg;have zv:4<w.heap.size:=dg;have zw:c<w.heap.size:=dg;have S:=m.nr.cells bl rfl j hj (k+1) _ (BW (by rw[m.len j hj];exact X));obtain⟨x0,O⟩:=af ((ae L j).attr[k]?.getD 0);rw[O]at S;have ze:w.cell? (aq bl (j*16+k+1))=some (Iq x0):=S;have cf:w.frozen? (aq bl (j*16+(k+1)))=false:=m.nr.frz rfl _;have zg:w.frozen? (aq bl (j*16+k+1))=false:=m.nr.frz rfl _;clear O;have A:Hid (∀(W':AT),Bq w W'->¬x<n->(y&&(n !=r)&&hh)=false->s' w (W'.setCell (aq bl (j*16+(k+1))) (Iq n)) (.returned .nilIface) c B s i t (Sq bl L.length b) u L KV j k n rg tw bl):=λW' a c1 c2=>by
  have zk:=m.up (Up.below (B:=B) a);refine⟨gr_trans (dm a) (cM W' bl _ _),by rw[Q.out,if_neg c1,c2];rfl,PR.far (Z.below a) (cM W' bl _ _) (λq e=>rn) zl,?_,(Fr.below a V).trans (Fr.own (cM W' bl _ _) (aA V a.size) (λq e=>rn)),?_⟩;.rw[Y.out,if_neg rn];have:=zk.setAttr hj X n;omega
  .have:=a.size;simp;omega
 have l:Hid (∀(o:Obj),¬x<n->(y&&(n !=r)&&hh)=false->s' w ((w.setCell (aq bl (j*16+(k+1))) (Iq n)).alloc o) (.returned .nilIface) c B s i t (Sq bl L.length b) u L KV j k n rg tw bl):=λo c1 c2=>by obtain⟨e0,e1,e2,e3,e4,e5⟩:=A w Ok c1 c2;have a:Below (w.setCell (aq bl (j*16+(k+1))) (Iq n)).heap.size (w.setCell (aq bl (j*16+(k+1))) (Iq n)) ((w.setCell (aq bl (j*16+(k+1))) (Iq n)).alloc o):=No;exact⟨gr_trans e0 (dm a),e1,e2.below a,e3.up (Up.below a),e4.trans (Fr.below a e5),aA e5 a.size⟩
 have D:Hid (∀(W':AT),Bq w W'->(x<n\/(y&&(n !=r)&&hh)=true)->s' w W' (.returned (Ak L k n rg tw)) c B s i t (Sq bl L.length b) u L KV j k n rg tw bl):=λW' a c1=>
  ⟨dm a,rfl,Z.below a,by rw[Y.out,if_pos c1];exact m.up (Up.below a),Fr.below a V,aA V a.size⟩;have T:=ER.out;have F:=ET.out;by_cases c1:x<n
 .have HV:Hid (Ak L k n rg tw=.iface 460 (.pointer (some rg))):=qH<|by rw[Q.out,if_pos c1];rfl
  have d1:=decide_eq_true c1;go_enter func282,ntmps282;go_wp2;go_ret;have:=D _ P (.inl c1);rw[HV.out]at this;exact this
 .have d1:=decide_eq_false c1;cases I:y with
  |false=>subst I;go_enter func282,ntmps282;go_wp2_with(first|(go_at_fn g;refine Ut (C.2 _ _ _) ?_;rintro w2 M;obtain rfl:=M.symm));go_ret;exact l _ dg rfl
  |true=>
   subst I;by_cases c2:n=r;.subst c2;have e2:(n !=n)=false:=At;have zh:(n==n)=true:=At;go_enter func282,ntmps282;go_wp2_with(first|(go_at_fn g;refine Ut (C.2 _ _ _) ?_;rintro w2 M;obtain rfl:=M.symm));go_ret;exact l _ dg rn
   .have e2:(n !=r)=true:=by simpa using c2
    have zh:(n==r)=false:=by simpa using c2
    have CS:=qH<|R _ (Z.below P) (m.up (Up.below P));go_enter func282,ntmps282;go_wp2_with fail;refine Ut CS ?_;rintro w2 v;have f:=qH<|P.trans (v.mono At);have d5:w2.cell? (aq w.heap.size 5)=some (.func (.func g) #[] #[]):=(v.cell (p:=(aq w.heap.size 5)) At).trans (by simp_all);have zq:=(f.cell (p:=(aq 3 0)) zj).trans F;have zn:=(f.cell (p:=(aq bl (j*16+(k+1)))) J).trans S;have zo:=(f.frozen (p:=(aq bl (j*16+(k+1)))) J).trans cf;clear v CS F T S ze cf zg;cases K:hh with
    |true=>
     subst K;have HV:Hid (Ak L k n rg tw=.iface 460 (.pointer (some tw))):=qH<|by rw[Q.out,if_neg dg,if_pos rn];rfl
     go_wp2;go_ret;have:=D _ f (.inr rn);rw[HV.out]at this;exact this
    |false=>subst K;go_wp2_with(first|(go_at_fn g;refine Ut (C.2 _ _ _) ?_;rintro w3 M;obtain rfl:=M.symm));go_ret;exact A _ f dg rn
def dx(name:BY)(kind:Nat):Nat->Nat->Option Nat
 |0,_=>none
 |f+1,j=>if fJ j=name/\RN (lK j) kind=true then some j else dx name kind f (j+1)
def qA:Fd:=.agg #[.string ⟨#[]⟩,.int .u64 0,Iq 0,Iq 0,.bool false,.nilFunc]
def oT(name:BY)(kind:Nat)(ws:List BY)(no tw:Addr):Fd:=match dx name kind 12 0 with
 |none=>.tuple #[qA,aT no]
 |some j=>if 0<=aB ws name 0 then .tuple #[qA,aT tw]else .tuple #[qh j,.nilIface]
def iF{fn:Func}{p u}{c}(h:fn.results=#[.cell p c,.tmp u])a P w g b(e:a.getD p undef=Pq g)(d:(loadVar c (aq g 0)).run P w=.ok (.agg b) w):
 (results fn a).run P w=.ok (.tuple #[.agg b,a.getD u undef]) w:=by rw[results_cell_tmp h,e];simp[asAddr,d]
theorem xc{W:AT}{b}{T}{f g i j k l}(h:W.heap[b]?=some (.cells #[f,g,i,j,k,l] T (0,0)))a v1 v2 c d e:
 ((((((W.setCell (aq b 0) a).setCell (aq b 1) v1).setCell (aq b 2) v2).setCell (aq b 3) c).setCell (aq b 4) d).setCell (aq b 5) e).heap[b]?=some (.cells #[a,v1,v2,c,d,e] T (0,0)):=
 heap_setCell_same _ b 5 _ T _ (heap_setCell_same _ b 4 _ T _ (heap_setCell_same _ b 3 _ T _ (heap_setCell_same _ b 2 _ T _ (heap_setCell_same _ b 1 _ T _ (heap_setCell_same _ b 0 _ T _ h)))))
theorem yu(X:AT):X.drew.heap=X.heap:=rfl
def sw{W:AT}{b}{T}{f g i j k l}(h:W.heap[b]?=some (.cells #[f,g,i,j,k,l] T (0,0)))a v1 v2 c d e:
 (((((((W.setCell (aq b 0) a).setCell (aq b 1) v1).setCell (aq b 2) v2).setCell (aq b 3) c).setCell (aq b 4) d).setCell (aq b 5) e).drew).heap[b]?=some (.cells #[a,v1,v2,c,d,e] T (0,0)):=by grind[yu,xc]
def m_{B}{w w'}(h:Below B w w'):Below B w w'.drew:=⟨h.os,h.tape,h.output,h.size,h.block⟩
def kQ{B b}{W W'}(h:Below B W W')(a:B<=b)c v1 v2 d e f:Below B W ((((((W'.setCell (aq b 0) c).setCell (aq b 1) v1).setCell (aq b 2) v2).setCell (aq b 3) d).setCell (aq b 4) e).setCell (aq b 5) f):=
 dU (dU (dU (dU (dU (dU h a c) a v1) a v2) a d) a e) a f
def kd_four j(a:j<12):lK j=127\/lK j=3\/lK j=8\/lK j=32:=by have:j=0\/j=1\/j=2\/j=3\/j=4\/j=5\/j=6\/j=7\/j=8\/j=9\/j=10\/j=11:=dg;rcases this with rfl|rfl|rfl|rfl|rfl|rfl|rfl|rfl|rfl|rfl|rfl|rfl<;>decide
def oR.below{W W'}{v}{e}(h:oR W v e)(d:Bq W W'):oR W' v e:=by
 obtain⟨p,c,rfl,rfl|⟨a,rfl,b,f⟩⟩:=h;.exact⟨p,c,rfl,.inl rfl⟩
 .exact⟨_,c,rfl,.inr ⟨a,rfl,zz006 b d.size,λj g=>(d.cell (p:=(aq a (0+j))) b).trans (f j g)⟩⟩
def attributeOf_any(rb ab:Nat)(s:BY)(i:Nat)(nv fv:Fd)(a:Nat)(name:BY)(v:Fd)(x:List BY)(C tw:Addr)(w:AT)(h:PR w rb s i (Sq ab 12 12) nv fv)(ht:Fq w ab)(hk:a<7)(hv:oR w v x)(hn:x.length<=1099511627776)(M:w.cell? (aq 5 0)=some (aT C))(R:w.cell? (aq 3 0)=some (aT tw)):
 Cw 280 #[Pq rb,Iq (a:Int),.string name,v] w λe w'=>e=Rw (oT name a x C tw)/\Bq w w':=by
 have EN:Hid (w.cell? (aq 5 0)=some (.iface 460 (.pointer (some C)))):=M;have ET:Hid (w.cell? (aq 3 0)=some (.iface 460 (.pointer (some tw)))):=R;have zh:5<w.heap.size:=nR w _ M;have zg:3<w.heap.size:=nR w _ R;have HT:=qH<|ht;have HX:=qH<|hv;have c2:=h.c2;have zm:=h.lt;have ze:=ht.lt;have HI:=qH<|λn m mo wi sg fv w hm=>G7 n m a mo wi sg fv w hm hk;have V:Hid (∀r,dx name a 12 0=r->oT name a x C tw=match r with
  |none=>.tuple #[qA,aT C]
  |some j=>if 0<=aB x name 0 then .tuple #[qA,aT tw]else .tuple #[qh j,.nilIface]):=λr hr=>by grind[oT]
 obtain⟨pv,cv,rfl,_⟩:∃p c,v=.slice p x.length c/\True:=by obtain⟨p,c,e,_⟩:=hv;grind
 clear h ht hv M R;go_enter func280,ntmps280;go_wp2;go_loopw[17] (λu wr=>∃j:Nat,u=Iq (j:Int)/\j<=12/\Hid (dx name a 12 0=dx name a (12-j) j)/\Hid (Bq w wr)/\Hid (wr.heap[w.heap.size]?=some (.cells #[.string ⟨#[]⟩,.int .u64 0,Iq 0,Iq 0,.bool false,.nilFunc] 259 (0,0)))) (λu _=>12-(intOf u).toNat);.exact⟨0,rfl,dg,rfl,No,heap_alloc_new _ _⟩
 obtain⟨j,rfl,hj,U,G,I⟩:=hrel;have E:=(aj.1 I).1;have M:=(G.cell (p:=(aq 5 0)) zh).trans EN;by_cases O:j<12
 .have zi:(j:Int)<12:=dg;have hT:=HT.fr (Fr.below (r:=w.heap.size) G LE) ze dg;obtain⟨t0,t1,t2,t3,t4,t5⟩:=hT.at O;have zj:=hT.lt;have H:=qH<|kd_four j O;have f:Hid (dx name a 12 0=if fJ j=name/\RN (lK j) a=true then some j else dx name a (12-(j+1)) (j+1)):=qH<|by rw[U.out,show 12-j=(12-(j+1))+1 by omega];rfl
  have J:Hid (qh j=.agg #[.string (fJ j),.int .u64 (lK j:Int),Iq (k6 j),Iq (li j),.bool (ou j),.func (.func (tC j)) #[] #[]]):=rfl;obtain⟨g,hg⟩:=af (tC j);obtain⟨t,h0⟩:=af (fJ j);obtain⟨K,h1⟩:=af (lK j);obtain⟨X,h2⟩:=af (k6 j);obtain⟨Y,h3⟩:=af (li j);obtain⟨Z,h4⟩:=af (ou j);rw[h0]at t0 f;rw[h1]at t1 H f;rw[h2]at t2;rw[h3]at t3;rw[h4]at t4;rw[hg]at t5;rw[h0,h1,h2,h3,h4,hg]at J;clear h0 h1 h2 h3 h4 hg hT;by_cases e0:t=name;.subst e0;have CI:Hid (∀W,Cw 312 #[.agg #[.string t,.int .u64 (K:Int),Iq X,Iq Y,.bool Z,.func (.func g) #[] #[]],Iq (a:Int)] W λe w'=>e=Rw (.bool (RN K a))/\Bq W w'):=λW=>HI _ _ _ _ _ _ _ H;obtain⟨ok,D⟩:=af (RN K a);rw[D]at CI;rw[D]at f;clear D;go_wp2_with fail;refine Ut (CI _) ?_;rintro d A;have y:=qH<|(G.alloc (Nat.le_of_lt E) _).trans (A.mono (by simp;omega));have z:=qH<|(A.block _ (by simp;omega)).trans ((heap_alloc_old _ _ E).trans I);have T:Hid (d.heap[wr.heap.size]?=some (.cells #[.string t,.int .u64 (K:Int),Iq X,Iq Y,.bool Z,.func (.func g) #[] #[]] 259 (0,0))):=(A.block _ At).trans (heap_alloc_new _ _);clear A t0 t1 t2 t3 t4 t5 M;cases ok with
   |false=>
    have k:Hid (dx t a 12 0=dx t a (12-(j+1)) (j+1)):=qH<|by rw[f.out,if_neg At]
    clear f;go_wp2;go_roundw;.grind
    .simp[intOf];omega
   |true=>
    have k:Hid (dx t a 12 0=some j):=qH<|by rw[f.out,if_pos At]
    clear f;have Q:=qH<|contains_any x t _ d (HX.below y) hn;by_cases S:0<=aB x t 0
    .have o:Hid (oT t a x C tw=.tuple #[qA,aT tw]):=qH<|by rw[V _ k.out];simp only[if_pos S]
     rw[decide_eq_true S]at Q;have R:=(y.cell (p:=(aq 3 0)) zg).trans ET;have b:=z.out;have P:=(aj.1 b).1;have z0:d.cell? (aq w.heap.size 0)=some (.string ⟨#[]⟩):=by simp[World.cell?,b]
     have z1:d.cell? (aq w.heap.size 1)=some (.int .u64 0):=by simp[World.cell?,b]
     have z2:d.cell? (aq w.heap.size 2)=some (Iq 0):=by simp[World.cell?,b]
     have z3:d.cell? (aq w.heap.size 3)=some (Iq 0):=by simp[World.cell?,b]
     have z4:d.cell? (aq w.heap.size 4)=some (.bool false):=by simp[World.cell?,b]
     have z5:d.cell? (aq w.heap.size 5)=some .nilFunc:=by simp[World.cell?,b]
     have zf:∀q,d.frozen? (aq w.heap.size q)=false:=λq=>frozen_of_row _ _ _ _ _ b;clear b;go_wp2_with fail;refine Ut Q ?_;rintro w3 F;obtain rfl:=F.symm;go_wp2_with fail;have zk:3≠w.heap.size:=dg;go_region;all_goals go_wp2;refine bodyPost_ret (iF rfl _ _ _ w.heap.size _ rfl (run_loadVar_row _ _ _ _ _ _ _ (sw z _ _ _ _ _ _) underlying259 rfl pt)) rfl ?_;exact⟨by rw[o.out];rfl,m_ (kQ y LE _ _ _ _ _ _)⟩
    .have o:Hid (oT t a x C tw=.tuple #[qh j,.nilIface]):=qH<|by rw[V _ k.out];simp only[if_neg S]
     rw[decide_eq_false S]at Q;have b:=z.out;have P:=(aj.1 b).1;have z0:d.cell? (aq w.heap.size 0)=some (.string ⟨#[]⟩):=by simp[World.cell?,b]
     have z1:d.cell? (aq w.heap.size 1)=some (.int .u64 0):=by simp[World.cell?,b]
     have z2:d.cell? (aq w.heap.size 2)=some (Iq 0):=by simp[World.cell?,b]
     have z3:d.cell? (aq w.heap.size 3)=some (Iq 0):=by simp[World.cell?,b]
     have z4:d.cell? (aq w.heap.size 4)=some (.bool false):=by simp[World.cell?,b]
     have z5:d.cell? (aq w.heap.size 5)=some .nilFunc:=by simp[World.cell?,b]
     have zf:∀q,d.frozen? (aq w.heap.size q)=false:=λq=>frozen_of_row _ _ _ _ _ b;have l:=T.out;have y0:d.cell? (aq wr.heap.size 0)=some (.string t):=by simp[World.cell?,l]
     have y1:d.cell? (aq wr.heap.size 1)=some (.int .u64 (K:Int)):=by simp[World.cell?,l]
     have y2:d.cell? (aq wr.heap.size 2)=some (Iq X):=by simp[World.cell?,l]
     have y3:d.cell? (aq wr.heap.size 3)=some (Iq Y):=by simp[World.cell?,l]
     have y4:d.cell? (aq wr.heap.size 4)=some (.bool Z):=by simp[World.cell?,l]
     have y5:d.cell? (aq wr.heap.size 5)=some (.func (.func g) #[] #[]):=by simp[World.cell?,l]
     clear b l;go_wp2_with fail;refine Ut Q ?_;rintro w3 F;obtain rfl:=F.symm;go_wp2;refine bodyPost_ret (iF rfl _ _ _ w.heap.size _ rfl (run_loadVar_row _ _ _ _ _ _ _ (xc z _ _ _ _ _ _) underlying259 rfl pt)) rfl ?_;exact⟨by rw[o.out,J.out];rfl,kQ y LE _ _ _ _ _ _⟩
  .have e1:=uc e0;have k:Hid (dx name a 12 0=dx name a (12-(j+1)) (j+1)):=qH<|by rw[f.out,if_neg (λh=>e0 h.1)]
   clear f;go_wp2;go_roundw;.exact⟨j+1,by go_num,dg,k,G.alloc dg _,(heap_alloc_old _ _ E).trans I⟩
   .simp[intOf];omega
 .obtain rfl:j=12:=dg;have k:Hid (dx name a 12 0=none):=U.out;have o:Hid (oT name a x C tw=.tuple #[qA,aT C]):=qH<|by rw[V _ k.out]
  have b:=I.out;have z0:wr.cell? (aq w.heap.size 0)=some (.string ⟨#[]⟩):=by simp[World.cell?,b]
  have z1:wr.cell? (aq w.heap.size 1)=some (.int .u64 0):=by simp[World.cell?,b]
  have z2:wr.cell? (aq w.heap.size 2)=some (Iq 0):=by simp[World.cell?,b]
  have z3:wr.cell? (aq w.heap.size 3)=some (Iq 0):=by simp[World.cell?,b]
  have z4:wr.cell? (aq w.heap.size 4)=some (.bool false):=by simp[World.cell?,b]
  have z5:wr.cell? (aq w.heap.size 5)=some .nilFunc:=by simp[World.cell?,b]
  have zf:∀q,wr.frozen? (aq w.heap.size q)=false:=λq=>frozen_of_row _ _ _ _ _ b;have zl:5≠w.heap.size:=dg;clear b U;go_wp2_with fail;go_region;all_goals go_wp2;refine bodyPost_ret (iF rfl _ _ _ w.heap.size _ rfl (run_loadVar_row _ _ _ _ _ _ _ (sw I _ _ _ _ _ _) underlying259 rfl pt)) rfl ?_;exact⟨by rw[o.out];rfl,m_ (kQ G LE _ _ _ _ _ _)⟩
def dW(E:zzi):dM->Fd
 |none=>.nilIface
 |some (c,p)=>cB (p:Int) (aT (E c))
structure Nn(W:AT)(rb ab B:Nat)(E:zzi):Prop where
 tab:Fq W ab
 lo:9<=rb
 rbB:rb<B
 abB:ab<B
 ne:ab≠rb
 le:B<=W.heap.size
 g2:W.cell? (aq 7 0)=some (aT (E 2))
 g3:W.cell? (aq 1 0)=some (aT (E 3))
 g4:W.cell? (aq 2 0)=some (aT (E 4))
 g5:W.cell? (aq 3 0)=some (aT (E 5))
 g6:W.cell? (aq 4 0)=some (aT (E 6))
 g7:W.cell? (aq 5 0)=some (aT (E 7))
def Nn.fr{W W'}{a ab B}{E}(h:Nn W a ab B E)(f:Fr B a W W'):Nn W' a ab B E:=by have lo:=h.lo;have b:=h.rbB;exact⟨h.tab.fr f h.abB h.ne,h.lo,h.rbB,h.abB,h.ne,aA h.le f.size,f.cell h.g2 rn rn,f.cell h.g3 rn rn,f.cell h.g4 rn rn,f.cell h.g5 rn rn,f.cell h.g6 rn rn,f.cell h.g7 rn rn⟩
def gV(er:dM)(eo:Option Nat)(p:Nat):dM:=match eo with
 |none=>er
 |some c=>fh er c p
def PX(E:zzi):Option Nat->Fd
 |none=>.nilIface
 |some c=>aT (E c)
def keep_all a s i b nv E g d(p:Nat)w(h:PR w a s i b nv (dW E g)):
 Cw 161 #[Pq a,PX E d,Iq (p:Int)] w λe w'=>e=Rw (.tuple #[])/\PR w' a s i b nv (dW E (gV g d p))/\w.grownBy w' (some a):=by
 cases d with
 |none=>exact Ia a s i b nv _ p w h
 |some c=>
  cases g with
  |none=>exact yM a s i b nv (E c) p w h
  |some f=>obtain⟨c2,j⟩:=f;exact yN a s i b nv (E c) (E c2) p j w h
structure F2(r b:Nat)(W W':AT):Prop where
 os:W'.os=W.os
 tape:W'.tape=W.tape
 output:W'.output=W.output
 size:W.heap.size<=W'.heap.size
 block:∀k,k<W.heap.size->k≠r->k≠b->W'.heap[k]?=W.heap[k]?
def F2.trans{r b}{W a c}(h:F2 r b W a)(k:F2 r b a c):F2 r b W c:=
 ⟨k.os.trans h.os,k.tape.trans h.tape,k.output.trans h.output,aA h.size k.size,λq d e f=>(k.block q (zz006 d h.size) e f).trans (h.block q d e f)⟩
def F2.left{r b}{W W'}(h:W.grownBy W' (some r)):F2 r b W W':=⟨h.os,h.tape,h.output,h.size,λk a c d=>h.block k a rn⟩
def F2.right{r b}{W W'}(h:W.grownBy W' (some b)):F2 r b W W':=⟨h.os,h.tape,h.output,h.size,λk a c d=>h.block k a rn⟩
def F2.below{r b}{W W'}(h:Bq W W'):F2 r b W W':=⟨h.os,h.tape,h.output,h.size,λk a c d=>h.block k a⟩
def F2.fr{r b B}{W W'}(h:F2 r b W W')(d:B<=W.heap.size)(e:B<=b):Fr B r W W':=⟨h.os,h.tape,h.output,h.size,λk c a=>h.block k dg a dg⟩
def oh(name:BY)(kind:Nat)(ws:List BY):Option Nat:=match dx name kind 12 0 with
 |none=>some 7
 |some _=>if 0<=aB ws name 0 then some 5 else none
def tc(name:BY)(kind:Nat):Nat:=(dx name kind 12 0).getD 0
def t_(L:zza)(k:Nat)(n:Int):Option Nat:=if k6 k<n then some 6 else if setB L k n=true then some 5 else none
def IP(L:zza)(j:Nat)(er:dM)(at_:Nat)(t:BY)(e j2 ix:Nat)(n:Int):Option Nat->Except Nat (Nat×dM×List Nd×BY)
 |some c=>.ok (e,gV er (some c) at_,L,t)
 |none=>.ok (e,gV er (t_ L ix n) j2,setL L j ix n,t)
def om(s:BY)(kind:Nat)(ws:List BY)(L:zza)(j:Nat)(er:dM)(at_:Nat)(t:BY)(i2:Nat):Except Nat (Nat×dM×List Nd×BY):=
 if eX s (sk s i2) (run aE s (sk s i2))=true then .error (sk s i2)else IP L j er at_ t (run aE s (sk s i2)) (sk s i2) (tc t kind) (dv s (sk s i2) (run aE s (sk s i2)-sk s i2)) (oh t kind ws)
def dG(s:BY)(kind:Nat)(ws:List BY)(L:zza)(j i:Nat)(er:dM):Except Nat (Nat×dM×List Nd×BY):=
 if run am s (sk s i)=sk s i then .error (sk s i)
 else if aK s (run am s (sk s i)) 61=true then om s kind ws L j er (sk s i) (s.extract (sk s i) (run am s (sk s i))) (an s (run am s (sk s i)) 61)
 else .error (sk s (run am s (sk s i)))
def Fm(w w':AT)(e:Ending)(rb B bl:Nat)(E:zzi)(s:BY)(av nv:Fd)(KV:Nat->Fd)(r:Except Nat (Nat×dM×List Nd×BY)):Prop:=
 F2 rb bl w w'/\match r with
 |.error b=>e=.panicked [{v:=cB (b:Int) (aT (E 2)),recovered:=false}]
 |.ok (i,er,L,name)=>e=Rw (.string name)/\PR w' rb s i av nv (dW E er)/\PN w' B nv L KV
def xl name a:∀f j k,dx name a f j=some k->j<=k/\k<j+f
 |0,j,k,h=>by cases h
 |f+1,j,k,h=>by
  unfold dx at h;split at h;.grind
  .have:=xl name a f (j+1) k h;omega
def MT L k n E:Ak L k n (E 6) (E 5)=PX E (t_ L k n):=by
 unfold Ak t_;split;.rfl
 .split<;>rfl
def Fz{t}{a c}{b}(E:zzi)(h:oh t a b=some c):oT t a b (E 7) (E 5)=.tuple #[qA,aT (E c)]:=by grind[oh,oT,dx,aB]
def Fy{t}{a}{b}(E:zzi)(h:oh t a b=none):tc t a<12/\oT t a b (E 7) (E 5)=.tuple #[qh (tc t a),.nilIface]:=by
 unfold oh at h;unfold oT tc;cases c:dx t a 12 0 with
 |none=>grind
 |some q=>
  rw[c]at h;by_cases d:0<=aB b t 0;.grind
  .have:=xl t a 12 0 q c;grind
def oR.f2{W W'}{v}{e}{r b}(h:oR W v e)(f:F2 r b W W')(k:∀q,v.ownBlock=some q->q≠r/\q≠b):oR W' v e:=by
 obtain⟨p,c,rfl,rfl|⟨a,rfl,d,g⟩⟩:=h;.exact⟨p,c,rfl,.inl rfl⟩
 .have:=k a rfl;exact⟨_,c,rfl,.inr ⟨a,rfl,zz006 d f.size,λj i=>(aQ (f.block a d this.1 this.2)).trans (g j i)⟩⟩
def readAttribute_any(l ab B:Nat)(E:zzi)(s:BY)(i:Nat)(m:dM)(L:zza)(KV:Nat->Fd)(bl o j d:Nat)(v:Fd)(y:List BY)(w:AT)(zx:Nn w l ab B E)(h:PR w l s i (Sq ab 12 12) (Sq bl L.length o) (dW E m))(hn:PN w B (Sq bl L.length o) L KV)(hL:L.length<=100000)(hj:j<L.length)(hkd:(ae L j).kind=d)(Tw:d<7)(hv:oR w v y)(Zk:∀q,v.ownBlock=some q->q≠l/\q≠bl)(Zq:y.length<=1099511627776)(hs:s.size<=1073741824)(hi:i<=s.size):
 Cw 227 #[Pq l,.pointer (some (aq bl (j*16))),v] w λe w'=>Fm w w' e l B bl E s (Sq ab 12 12) (Sq bl L.length o) KV (dG s d y L j i m):=by
 obtain⟨av,zh⟩:=af (Sq ab 12 12);obtain⟨nv,hnv⟩:=af (Sq bl L.length o);have A:=zx.rbB;have hlo:=zx.lo;have CW:=lW l s i (Sq ab 12 12) (Sq bl L.length o) (dW E m) w h dg hi;obtain⟨at_,zy⟩:=af (sk s i);have zK:at_<=s.size:=by rw[<-zy];exact gu s i hi
 obtain⟨k,hk⟩:=af (run am s at_);have J:k<=s.size:=by rw[<-hk];exact gI _ _ _ zK
 have hkg:at_<=k:=by rw[<-hk];exact ga _ _ _
 obtain⟨t,ht⟩:=af (s.extract at_ k);rw[zy,hk,ht]at CW;have HP:Hid (dG s d y L j i m=if k=at_ then .error at_ else if aK s k 61=true then om s d y L j m at_ t (an s k 61)else .error (sk s k)):=qH<|by unfold dG;rw[zy,hk,ht]
 have zE:=qH<|CW;have ze:=qH<|zx;have HN:=qH<|hn;have HX:=qH<|hv;have QZ:t.size=k-at_:=by rw[<-ht];simp;omega
 have zS:=qH<|hkd;obtain⟨pv,cv,YW⟩:∃p c,v=.slice p y.length c:=by obtain⟨p,c,e,_⟩:=hv;grind
 subst YW;by_cases zM:k=at_
 .have zV:Hid (dG s d y L j i m=.error at_):=qH<|by rw[HP.out,if_pos zM]
  have et:t.toList.isEmpty=true:=by
   rw[ByteArray.toList_eq];have:t.data.size=0:=by show t.size=0;omega
   simp[JT this]
  have HT:Hid (∀W,W.cell? (aq 7 0)=some (aT (E 2))->Cw 94 #[Iq (at_:Int)] W λe w'=>e=Rw (.iface 186 (.agg #[Iq (at_:Int),.iface 460 (.pointer (some (E 2)))]))/\w'=W):=λW he=>d_ _ W (E 2) he;go_enter func227,ntmps227;go_wp2_with fail;refine Ut zE ?_;rintro w1 ⟨h1,g1⟩;have zr:=qH<|g1;have C:=qH<|ze.fr (Fr.grown g1 ze.le);go_wp2_with fail;refine Ut (HT _ C.g2) ?_;rintro Y hw;obtain rfl:=hw.symm;go_wp2;refine⟨rfl,?_⟩;rw[zV.out];exact⟨F2.left zr,rfl⟩
 .have S:Hid (dG s d y L j i m=if aK s k 61=true then om s d y L j m at_ t (an s k 61)else .error (sk s k)):=qH<|by rw[HP.out,if_neg zM]
  have et:t.toList.isEmpty=false:=by
   rw[ByteArray.toList_eq];have:t.data.size≠0:=by show t.size≠0;omega
   cases hd:t.data.toList with
   |nil=>grind
   |cons a r=>rfl
  go_enter func227,ntmps227;go_wp2_with fail;refine Ut zE ?_;rintro w1 ⟨h1,g1⟩;have zr:=qH<|g1;have C:=qH<|ze.fr (Fr.grown g1 ze.le);have zG:=qH<|HN.up (Up.grown g1 A);have zX:=qH<|h1;have zZ:=qH<|HX.f2 (F2.left (b:=bl) g1) Zk;have ck:w1.cell? (aq bl (j*16))=some (Iq (d:Int)):=by have:=zG.nr.cells bl rfl j hj 0 _ (MD _ _);rw[zS.out]at this;exact this
  have CA:=qH<|attributeOf_any l ab s k _ _ d t _ y (E 7) (E 5) w1 h1 C.tab Tw zZ Zq C.g7 C.g5;go_wp2_with fail;refine Ut CA ?_;rintro Y zi;have zF:Hid (F2 l bl w Y):=(F2.left zr).trans (F2.below zi);have I:=qH<|C.fr (Fr.below zi C.le);have zH:=qH<|zG.up (Up.below zi);have zg:=qH<|zX.below zi;cases hao:oh t d y with
  |some c=>
   have zm:=qH<|hao;have zN:Hid (oT t d y (E 7) (E 5)=.tuple #[.agg #[.string ⟨#[]⟩,.int .u64 0,Iq 0,Iq 0,.bool false,.nilFunc],.iface 460 (.pointer (some (E c)))]):=Fz E hao;rw[zN.out];have x:Hid (Bq Y (Y.alloc (.cells #[.string ⟨#[]⟩,.int .u64 0,Iq 0,Iq 0,.bool false,.nilFunc] 259))):=No;have CK:Hid (Cw 161 #[Pq l,.iface 460 (.pointer (some (E c))),Iq (at_:Int)] (Y.alloc (.cells #[.string ⟨#[]⟩,.int .u64 0,Iq 0,Iq 0,.bool false,.nilFunc] 259)) λe w'=>e=Rw (.tuple #[])/\PR w' l s k (Sq ab 12 12) (Sq bl L.length o) (dW E (gV m (some c) at_))/\(Y.alloc (.cells #[.string ⟨#[]⟩,.int .u64 0,Iq 0,Iq 0,.bool false,.nilFunc] 259)).grownBy w' (some l)):=keep_all l s k _ _ E m (some c) at_ _ (zg.below x);go_wp2_with fail;refine Ut CK ?_;rintro K ⟨h4,g4⟩;have T:=qH<|h4;have Q:=qH<|zF.trans ((F2.below x).trans (F2.left g4));have D:=qH<|(I.fr (Fr.below x I.le)).fr (Fr.grown g4 (aA I.le x.size));have zt:=qH<|(zH.up (Up.below x)).up (Up.grown g4 A);by_cases Z:aK s k 61=true
   .have G:an s k 61<=s.size:=dH dg J;have CX:Hid (Cw 167 #[Pq l,.int .u8 61] K λe w'=>e=Rw (.tuple #[])/\PR w' l s (an s k 61) (Sq ab 12 12) (Sq bl L.length o) (dW E (gV m (some c) at_))/\K.grownBy w' (some l)):=fQ l s k _ _ _ 61 K T dg J dg Z;have u:Hid (dG s d y L j i m=om s d y L j m at_ t (an s k 61)):=qH<|by rw[S.out,if_pos Z]
    obtain⟨f,X⟩:=af (an s k 61);rw[X]at CX u G;go_wp2_with fail;refine Ut CX ?_;rintro w5 ⟨h5,M⟩;have R:=qH<|Q.trans (F2.left M);have P:=qH<|D.fr (Fr.grown M D.le);have zu:=qH<|zt.up (Up.grown M A);have U:=qH<|h5;by_cases hb:run aE s (sk s f)=sk s f\/sk s f+6<run aE s (sk s f)\/(sk s f+1<run aE s (sk s f)/\cR s (sk s f)=48)
    .have CN:=qH<|readNumber_no l s f _ _ _ (E 2) w5 U dg G dg P.g2 hb;have z:Hid (dG s d y L j i m=.error (sk s f)):=qH<|by rw[u.out];unfold om eX;rw[if_pos (decide_eq_true hb)]
     go_wp2_with fail;refine Ut CN ?_;rintro O V;refine⟨rfl,?_⟩;rw[z.out];exact⟨R.trans (F2.left V),rfl⟩
    .have CN:=qH<|readNumber_yes l s f _ _ _ w5 U dg G hb;have z:Hid (dG s d y L j i m=IP L j m at_ t (run aE s (sk s f)) (sk s f) (tc t d) (dv s (sk s f) (run aE s (sk s f)-sk s f)) ((some c))):=qH<|by rw[u.out];unfold om eX;rw[if_neg (by simpa using hb),zm.out]
     obtain⟨n,hn⟩:=af (dv s (sk s f) (run aE s (sk s f)-sk s f));obtain⟨j2,zB⟩:=af (sk s f);obtain⟨e2,zA⟩:=af (run aE s j2);rw[hn,zB,zA]at CN z;go_wp2_with fail;refine Ut CN ?_;rintro O ⟨h6,V⟩;have zq:=qH<|R.trans (F2.left V);have zv:=qH<|zu.up (Up.grown V A);have zw:=qH<|h6;go_wp2;go_ret;show Fm _ _ _ _ _ _ _ _ _ _ _ _;rw[z.out];exact⟨zq,rfl,zw,zv⟩
   .have zj:aK s k 61=false:=by simpa using Z
    have CX:Hid (Cw 167 #[Pq l,.int .u8 61] K λe w'=>e=.panicked [{v:=cB (sk s k:Int) (aT (E 2)),recovered:=false}]/\K.grownBy w' (some l)):=gR l s k _ _ _ (E 2) 61 K T dg J dg zj dg D.g2;have u:Hid (dG s d y L j i m=.error (sk s k)):=qH<|by rw[S.out,if_neg Z]
    go_wp2_with fail;refine Ut CX ?_;rintro w5 M;refine⟨rfl,?_⟩;rw[u.out];exact⟨Q.trans (F2.left M),rfl⟩
  |none=>
   have zm:=qH<|hao;obtain⟨zL,zh⟩:=Fy E hao;obtain⟨ix,zk⟩:=af (tc t d);have zR:=qH<|zk;rw[zk]at zL zh;obtain⟨a0,a1,a2,a3,a4,g,hrow⟩:∃a0 a1 a2 a3 a4 g,qh ix=.agg #[.string a0,.int .u64 ((a1:Nat):Int),Iq a2,Iq a3,.bool a4,.func (.func g) #[] #[]]:=⟨_,_,_,_,_,_,rfl⟩;have zI:=qH<|hrow;rw[hrow]at zh;rw[zh];have x:Hid (Bq Y (Y.alloc (.cells #[.string a0,.int .u64 (a1:Int),Iq a2,Iq a3,.bool a4,.func (.func g) #[] #[]] 259))):=No;have CK:Hid (Cw 161 #[Pq l,.nilIface,Iq (at_:Int)] (Y.alloc (.cells #[.string a0,.int .u64 (a1:Int),Iq a2,Iq a3,.bool a4,.func (.func g) #[] #[]] 259)) λe w'=>e=Rw (.tuple #[])/\PR w' l s k (Sq ab 12 12) (Sq bl L.length o) (dW E (m))/\(Y.alloc (.cells #[.string a0,.int .u64 (a1:Int),Iq a2,Iq a3,.bool a4,.func (.func g) #[] #[]] 259)).grownBy w' (some l)):=keep_all l s k _ _ E m none at_ _ (zg.below x);go_wp2_with fail;refine Ut CK ?_;rintro K ⟨h4,g4⟩;have T:=qH<|h4;have Q:=qH<|zF.trans ((F2.below x).trans (F2.left g4));have D:=qH<|(I.fr (Fr.below x I.le)).fr (Fr.grown g4 (aA I.le x.size));have zt:=qH<|(zH.up (Up.below x)).up (Up.grown g4 A);have zn:=qH<|(g4.block _ At (by simp;have:=zg.lt;omega)).trans (heap_alloc_new _ _);have Zl:=zg.lt;obtain⟨P3,zJ⟩:=af Y.heap.size;rw[zJ]at zn;rw[zJ];have XS:P3≠l:=dg;by_cases Z:aK s k 61=true
   .have G:an s k 61<=s.size:=dH dg J;have CX:Hid (Cw 167 #[Pq l,.int .u8 61] K λe w'=>e=Rw (.tuple #[])/\PR w' l s (an s k 61) (Sq ab 12 12) (Sq bl L.length o) (dW E (m))/\K.grownBy w' (some l)):=fQ l s k _ _ _ 61 K T dg J dg Z;have u:Hid (dG s d y L j i m=om s d y L j m at_ t (an s k 61)):=qH<|by rw[S.out,if_pos Z]
    obtain⟨f,X⟩:=af (an s k 61);rw[X]at CX u G;go_wp2_with fail;refine Ut CX ?_;rintro w5 ⟨h5,M⟩;have R:=qH<|Q.trans (F2.left M);have P:=qH<|D.fr (Fr.grown M D.le);have zu:=qH<|zt.up (Up.grown M A);have U:=qH<|h5;have zD:=qH<|(M.block _ (aj.1 zn).1 (by simp;omega)).trans zn;by_cases hb:run aE s (sk s f)=sk s f\/sk s f+6<run aE s (sk s f)\/(sk s f+1<run aE s (sk s f)/\cR s (sk s f)=48)
    .have CN:=qH<|readNumber_no l s f _ _ _ (E 2) w5 U dg G dg P.g2 hb;have z:Hid (dG s d y L j i m=.error (sk s f)):=qH<|by rw[u.out];unfold om eX;rw[if_pos (decide_eq_true hb)]
     go_wp2_with fail;refine Ut CN ?_;rintro O V;refine⟨rfl,?_⟩;rw[z.out];exact⟨R.trans (F2.left V),rfl⟩
    .have CN:=qH<|readNumber_yes l s f _ _ _ w5 U dg G hb;have z:Hid (dG s d y L j i m=IP L j m at_ t (run aE s (sk s f)) (sk s f) (tc t d) (dv s (sk s f) (run aE s (sk s f)-sk s f)) (none)):=qH<|by rw[u.out];unfold om eX;rw[if_neg (by simpa using hb),zm.out]
     obtain⟨n,hn⟩:=af (dv s (sk s f) (run aE s (sk s f)-sk s f));obtain⟨j2,zB⟩:=af (sk s f);obtain⟨e2,zA⟩:=af (run aE s j2);rw[hn,zB,zA]at CN z;go_wp2_with fail;refine Ut CN ?_;rintro O ⟨h6,V⟩;have zq:=qH<|R.trans (F2.left V);have zo:=qH<|P.fr (Fr.grown V P.le);have zv:=qH<|zu.up (Up.grown V A);have zw:=qH<|h6;have zO:=qH<|(V.block _ (aj.1 zD).1 (by simp;omega)).trans zD;have F:=zO.out;have y0:O.cell? (aq P3 0)=some (.string a0):=by simp[World.cell?,F]
     have y1:O.cell? (aq P3 1)=some (.int .u64 (a1:Int)):=by simp[World.cell?,F]
     have y2:O.cell? (aq P3 2)=some (Iq a2):=by simp[World.cell?,F]
     have y3:O.cell? (aq P3 3)=some (Iq a3):=by simp[World.cell?,F]
     have y4:O.cell? (aq P3 4)=some (.bool a4):=by simp[World.cell?,F]
     have y5:O.cell? (aq P3 5)=some (.func (.func g) #[] #[]):=by simp[World.cell?,F]
     clear F;have CS:Hid (Cw 282 #[Pq l,.pointer (some (aq bl (j*16))),.agg #[.string a0,.int .u64 (a1:Int),Iq a2,Iq a3,.bool a4,.func (.func g) #[] #[]],Iq n] O λe w'=>O.grownBy w' (some bl)/\e=Rw (PX E (t_ L ix n))/\PR w' l s e2 (Sq ab 12 12) (Sq bl L.length o) (dW E (m))/\PN w' B (Sq bl L.length o) (setL L j ix n) KV):=by have zl:=MW l B s e2 (Sq ab 12 12) (dW E (m)) L KV bl o j ix zL n (E 6) (E 5) O zw zv hL hj A zo.le dg dg dg dg zo.g6 zo.g5;rw[zI.out]at zl;exact zl.mono λe w' ⟨q1,q2,q3,q4,_⟩=>⟨q1,by rw[q2,MT],q3,q4⟩
     go_wp2_with fail;refine CS.mono ?_;rintro e w7 ⟨g7,rfl,h7,n7⟩;have zP:=qH<|zq.trans (F2.right g7);have zT:=qH<|n7;have zC:=qH<|keep_all l s e2 _ _ E (m) (t_ L ix n) j2 w7 h7;clear g7 h7 n7 CS y0 y1 y2 y3 y4 y5;go_wp2_with fail;refine Ut zC ?_;rintro w8 ⟨h8,g8⟩;have zY:=qH<|h8;have zQ:=qH<|zP.trans (F2.left g8);have zU:=qH<|zT.up (Up.grown g8 A);clear h8 g8 zC;go_wp2;go_ret;show Fm _ _ _ _ _ _ _ _ _ _ _ _;rw[z.out,zR.out];exact⟨zQ,rfl,zY,zU⟩
   .have zj:aK s k 61=false:=by simpa using Z
    have CX:Hid (Cw 167 #[Pq l,.int .u8 61] K λe w'=>e=.panicked [{v:=cB (sk s k:Int) (aT (E 2)),recovered:=false}]/\K.grownBy w' (some l)):=gR l s k _ _ _ (E 2) 61 K T dg J dg zj dg D.g2;have u:Hid (dG s d y L j i m=.error (sk s k)):=qH<|by rw[S.out,if_neg Z]
    clear Z zj S;go_wp2_with fail;refine Ut CX ?_;rintro w5 M;refine⟨rfl,?_⟩;rw[u.out];exact⟨Q.trans (F2.left M),rfl⟩
def k_(s:BY)(i:Nat)(er:dM)(L:zza):Except Nat (Nat×dM×List Nd):=if aK s i 125=true then .ok (an s i 125,er,L)else .error (sk s i)
def dh(s:BY)(kind j:Nat):Nat->Nat->dM->List Nd->List BY->Except Nat (Nat×dM×List Nd)
 |0,i,_,_,_=>.error i
 |f+1,i,er,L,ws=>match dG s kind ws L j i er with
  |.error b=>.error b
  |.ok (i2,E8,L2,t)=>if aK s i2 59=true then dh s kind j f (an s i2 59) E8 L2 (ws++[t])else k_ s (an s i2 59) E8 L2
theorem nK L j k n:(setL L j k n).length=L.length:=by grind[setL]
theorem Ez L j k q n:(ae (setL L j k n) q).kind=(ae L q).kind:=by grind[setL,aL,ae,aD]
def Bj{s}{i c}(h:aK s i c=true):an s i c=sk s i+1:=by grind[aK,an]
def wK{s}{a}{r}{L}{j i}{f}{e}{d}{b}{t}(hi:i<=s.size)(h:dG s a r L j i f=.ok (e,d,b,t)):i<e/\e<=s.size/\b.length=L.length/\∀q,(ae b q).kind=(ae L q).kind:=by
 unfold dG at h;have u:=fG s i;have l:=gu s i hi;have v:=ga am s (sk s i);have m:=gI am s (sk s i) l;split at h;.cases h
 .split at h
  .rename_i p;have w:=Bj p;have x:=fG s (run am s (sk s i));have n:=dH (s:=s) (i:=run am s (sk s i)) (c:=61) dg m;unfold om at h;have y:=fG s (an s (run am s (sk s i)) 61);have o:=gu s _ n;have g:=ga aE s (sk s (an s (run am s (sk s i)) 61));have k:=gI aE s _ o;split at h;.cases h
   .unfold IP at h;grind[nK,Ez]
  grind
def Lu:(prog.info? 9).map (λi=>(i.zero,i.size,i.bytes))=some (some (.string ⟨#[]⟩),1,16):=pt
def Jr{W}{B}{v}{a}(h:W.ownsRow B 9 1 v a.length (a.map Value.string)):oR W v a:=by
 rcases cm h with⟨rfl,c⟩|⟨g,b,rfl,f,d,_⟩;.have:=kH c;subst this;exact⟨_,_,rfl,.inl rfl⟩
 .refine⟨_,_,rfl,.inr ⟨g,rfl,d,λj e=>?_⟩⟩;rw[b_,h.cellAt j dg];simp[e]
def own_f2{W W'}{B n size r b}{e}{v}{j}(h:W.ownsRow B e size v n j)(f:F2 r b W W')(k:∀q,v.ownBlock=some q->q≠r/\q≠b):W'.ownsRow B e size v n j:=by
 refine⟨h.1,?_⟩;rcases h.2 with l|⟨g,a,i,rfl,b,c,d⟩;.grind
 .have:=k g rfl;refine .inr ⟨g,a,i,rfl,b,?_,d⟩;rw[f.block g (aj.1 c).1 this.1 this.2];exact c
structure UG(N:Nat)(W W':AT):Prop where
 os:W'.os=W.os
 tape:W'.tape=W.tape
 output:W'.output=W.output
 size:W.heap.size<=W'.heap.size
 block:∀k,k<N->k<W.heap.size->W'.heap[k]?=W.heap[k]?
def F2.plus{r b}{a W W'}(h:F2 r b a W)(k:UG a.heap.size W W'):F2 r b a W':=
 ⟨k.os.trans h.os,k.tape.trans h.tape,k.output.trans h.output,aA h.size k.size,λq c d e=>(k.block q c (zz006 c h.size)).trans (h.block q c d e)⟩
def F2.other{a W W':AT}{o}(h:W.grownBy W' o)(d:∀q,o=some q->a.heap.size<=q):UG a.heap.size W W':=⟨h.os,h.tape,h.output,h.size,λk c b=>h.block k b (λe=>rn)⟩
def PN.beside{W W'}{B}{nv}{L}{KV}{v}{N m k}{l}(h:PN W B nv L KV)(f:W.ownsRow N 9 k v m l)(c:W.grownBy W' v.ownBlock):PN W' B nv L KV:=by refine⟨?_,h.len⟩;obtain⟨n,e⟩:=h.nr.row;refine⟨⟨n,e.kept c (dJ e f (by decide))⟩,λg a j b t u d=>?_,h.nr.len,λj b=>(h.nr.kids j b).kept c (dJ (h.nr.kids j b) f (by decide)),h.nr.sep⟩;have i:=e.lt g a;rw[aQ (c.block g i.2 (by grind[dJ]))];exact h.nr.cells g a j b t u d
def Fo(w w':AT)(e:Ending)(rb B bl:Nat)(E:zzi)(s:BY)(av nv:Fd)(KV:Nat->Fd)(n:Nat)(r:Except Nat (Nat×dM×List Nd)):Prop:=
 F2 rb bl w w'/\match r with
 |.error b=>e=.panicked [{v:=cB (b:Int) (aT (E 2)),recovered:=false}]
 |.ok (i,er,L)=>e=Rw (.tuple #[])/\PR w' rb s i av nv (dW E er)/\PN w' B nv L KV/\L.length=n
structure Ta(W0 W:AT)(rb ab B bl n0 cap j kind:Nat)(E:zzi)(s:BY)(i:Nat)(er:dM)(L:zza)(KV:Nat->Fd)(v:Fd)(ws:List BY):Prop where
 env:Nn W rb ab B E
 pr:PR W rb s i (Sq ab 12 12) (Sq bl n0 cap) (dW E er)
 pn:PN W B (Sq bl n0 cap) L KV
 len:L.length=n0
 kind:(ae L j).kind=kind
 row:W.ownsRow W0.heap.size 9 1 v ws.length (ws.map Value.string)
 wl:ws.length<=i
 il:i<=s.size
 fr:F2 rb bl W0 W
def readAttributes_any(c ab B:Nat)(E:zzi)(s:BY)(i:Nat)(l:dM)(L:zza)(KV:Nat->Fd)(bl d j a:Nat)(w:AT)(D:Nn w c ab B E)(h:PR w c s i (Sq ab 12 12) (Sq bl L.length d) (dW E l))(hn:PN w B (Sq bl L.length d) L KV)(hL:L.length<=100000)(hj:j<L.length)(zu:(ae L j).kind=a)(zt:a<7)(hs:s.size<=1073741824)(hi:i<=s.size):
 Cw 165 #[Pq c,.pointer (some (aq bl (j*16)))] w λe w'=>Fo w w' e c B bl E s (Sq ab 12 12) (Sq bl L.length d) KV L.length (dh s a j (s.size+1) i l L []):=by
 obtain⟨R,hR⟩:=af (dh s a j (s.size+1) i l L []);rw[hR];have zo:=hn.nr.row.choose_spec.lt bl rfl;have zx:=h.lt;obtain⟨n0,Q⟩:=af L.length;rw[Q]at h hn hL hj|-;have H0:Hid (Ta w w c ab B bl n0 d j a E s i l L KV (.slice none 0 0) []):=⟨D,h,hn,Q,zu,gw _ _ _ _,LT,hi,F2.below Ok⟩;have HR:=qH<|hR;obtain⟨i0,zr,zy,zA,zB⟩:=info_parts Lu;have U:=D.rbB;have zD:=D.lo;go_enter func165,ntmps165;go_wp2;go_loopw[4,5] (λv b wr=>∃(i:Nat) (l:dM) (L:zza) (C:List BY) (f:Nat) (m:Bool),b=.bool m/\Hid (Ta w wr c ab B bl n0 d j a E s i l L KV v C)/\s.size<f+i/\Hid ((if m=true then dh s a j f i l L C else k_ s i l L)=R)) (λ_ b wr=>2*(s.size-prI wr c)+(match b with|.bool true=>1|_=>0));.grind
 obtain⟨i,l,L,C,f,m,rfl,HS,hf,y⟩:=hrel;have A:=HS.il;have zF:=HS.wl;cases m with
 |true=>
  obtain⟨f,rfl⟩:∃q,f=q+1:=⟨f-1,dg⟩;have hl:=HS.len;subst hl;have S:∀q,u4.ownBlock=some q->q≠c/\q≠bl:=λq o=>by have:=(HS.row.lt q o).1;omega
  have CR:=qH<|readAttribute_any c ab B E s i l L KV bl d j a u4 C wr HS.env HS.pr HS.pn hL hj HS.kind zt (Jr HS.row) S dg hs A;cases T:dG s a C L j i l with
  |error b=>
   have g:Hid (R=.error b):=qH<|by rw[<-y.out];simp only[if_true];unfold dh;rw[T]
   rw[T]at CR;go_wp2_with fail;refine CR.mono ?_;rintro e H ⟨f2,rfl⟩;refine⟨rfl,?_⟩;rw[g.out];exact⟨HS.fr.trans f2,rfl⟩
  |ok r=>
   obtain⟨n,z,V,t⟩:=r;obtain⟨b1,b2,b3,b4⟩:=wK A T;have g:Hid ((if aK s n 59=true then dh s a j f (an s n 59) z V (C++[t])else k_ s (an s n 59) z V)=R):=by
    show _=_;rw[<-y.out];simp only[if_true];conv=>rhs;unfold dh
    rw[T]
   have zg:Hid ((ae V j).kind=a):=qH<|by rw[b4];exact HS.kind
   have ze:=qH<|b3;rw[T]at CR;go_wp2_with fail;refine CR.mono ?_;rintro e H ⟨f2,rfl,h2,n2⟩;have zl:=qH<|h2;have zi:=qH<|n2;have x:=qH<|f2;have zk:=qH<|own_f2 HS.row f2 S;have k:=zk.out;have zE:=aA HS.fr.size f2.size;go_wp2_with(at_builtin;refine wpList_append_own _ rfl _ _ 171 rfl w.heap.size 9 i0 (.string ⟨#[]⟩) 1 16 underlying171 zr zy zA zB rfl (by decide) _ _ _ rfl (k.alloc _) _ 1 1 [.string t] rfl rfl ?c1 ?c2 ?c3 ?c4 ?c5 ?_);case c1=>grind[gP]
   case c2=>intro u hu;simp at hu;subst hu;rfl
   case c3=>unfold maxLen;omega
   case c4=>omega
   case c5=>simp;omega
   intro v' w3 F Z _;have p:Hid (Bq H (H.alloc (.cells #[.string t] 9))):=No;have M:=λq o=>(k.lt q o).1;have zm:=qH<|PR.far (zl.below p) Z M zx;have zj:=qH<|(zi.up (Up.below p)).beside (k.alloc _) Z;have I:=qH<|((HS.env.fr (x.fr HS.env.le zo.1)).fr (Fr.below p (aA HS.env.le x.size))).fr (Fr.own Z (by have:=HS.env.le;have:=x.size;simp;omega) (λq o=>rn));have zh:=qH<|(HS.fr.trans (x.trans (F2.below p))).plus (F2.other Z M);have J:Hid (w3.ownsRow w.heap.size 9 1 v' (C++[t]).length ((C++[t]).map Value.string)):=by rw[aN,mi];exact F
   have CT:Hid (Cw 164 #[Pq c,.int .u8 59] w3 λe w'=>e=Rw (.bool (aK s n 59))/\PR w' c s (an s n 59) (Sq ab 12 12) (Sq bl L.length d) (dW E z)/\w3.grownBy w' (some c)):=jX c s n _ _ _ 59 w3 zm dg b2 dg;have O:an s n 59<=s.size:=dH dg b2;have zq:n<=an s n 59:=by unfold an;have:=fG s n;split<;>omega
   obtain⟨m',zv⟩:=af (aK s n 59);obtain⟨i3,P⟩:=af (an s n 59);rw[zv,P]at CT g;rw[P]at O zq;go_wp2_with fail;refine Ut CT ?_;rintro w4 ⟨h4,Y⟩;have zn:=qH<|h4.prI;have K:=qH<|HS.pr.prI;have zC:Hid (Ta w w4 c ab B bl L.length d j a E s i3 z V KV v' (C++[t])):=⟨I.fr (Fr.grown Y I.le),h4,zj.up (Up.grown Y U),ze,zg,own_f2 J (F2.left (b:=bl) Y) (λq o=>by have:=(J.lt q o).1;omega),rn,O,zh.trans (F2.left Y)⟩;go_wp2;go_roundw;.grind
   .rw[zn.out,K.out];grind
 |false=>
  have hl:=HS.len;subst hl;by_cases o:aK s i 125=true
  .have CX:Hid (Cw 167 #[Pq c,.int .u8 125] wr λe w'=>e=Rw (.tuple #[])/\PR w' c s (an s i 125) (Sq ab 12 12) (Sq bl L.length d) (dW E l)/\wr.grownBy w' (some c)):=fQ c s i _ _ _ 125 wr HS.pr dg A dg o;have g:Hid (R=.ok (an s i 125,l,L)):=qH<|by rw[<-y.out];simp only[qD,if_false];unfold k_;rw[if_pos o]
   go_wp2_with fail;refine Ut CX ?_;rintro H ⟨h2,X⟩;have HO:Hid (Fo w H (.returned (.tuple #[])) c B bl E s (Sq ab 12 12) (Sq bl L.length d) KV L.length R):=by show Fo _ _ _ _ _ _ _ _ _ _ _ _ _;rw[g.out];exact⟨HS.fr.trans (F2.left X),rfl,h2,HS.pn.up (Up.grown X U),rfl⟩
   go_wp2;go_end0;exact HO
  .have zw:aK s i 125=false:=by simpa using o
   have CX:Hid (Cw 167 #[Pq c,.int .u8 125] wr λe w'=>e=.panicked [{v:=cB (sk s i:Int) (aT (E 2)),recovered:=false}]/\wr.grownBy w' (some c)):=gR c s i _ _ _ (E 2) 125 wr HS.pr dg A dg zw dg HS.env.g2;have g:Hid (R=.error (sk s i)):=qH<|by rw[<-y.out];simp only[qD,if_false];unfold k_;rw[if_neg o]
   go_wp2_with fail;refine Ut CX ?_;rintro H X;refine⟨rfl,?_⟩;rw[g.out];exact⟨HS.fr.trans (F2.left X),rfl⟩
def iM(n depth:Nat):Option Nat:=if 100<=n then some 3 else if 12<=depth then some 4 else none
def MO n a E:lX n a (E 3) (E 4)=PX E (iM n a):=by
 unfold lX iM;split;.rfl
 .split<;>rfl
def dd(s:BY)(st:PS)(c:Nat):Except Nat PS:=if aK s st.i c=true then .ok {st with i:=an s st.i c}else .error (sk s st.i)
def fD(s:BY)(cC:PS->Except Nat PS):Nat->PS->Except Nat PS
 |0,st=>.error st.i
 |f+1,st=>match cC st with
  |.error b=>.error b
  |.ok EL=>if aK s EL.i 44=true then fD s cC f {EL with i:=an s EL.i 44}else dd s {EL with i:=an s EL.i 44} 93
def fm(s:BY)(cC:PS->Except Nat PS)(st:PS):Except Nat PS:=
 if aK s st.i 91=true then(if aK s (an s st.i 91) 93=true then .ok {st with i:=an s (an s st.i 91) 93}else fD s cC (s.size+1) {st with i:=an s (an s st.i 91) 93})else .error (sk s st.i)
def lS(r:Except Nat PS)(g:PS->Except Nat PS):Except Nat PS:=match r with
 |.error b=>.error b
 |.ok st=>g st
def mO(s:BY)(cC:PS->Except Nat PS)(st:PS):Except Nat PS:=
 if aK s st.i 91=true then lS (cC {st with i:=an s st.i 91}) λEL=>dd s EL 93 else .error (sk s st.i)
def f_(s:BY)(idx:Nat)(st:PS):Except Nat PS:=match fo s st.i with
 |.error b=>.error b
 |.ok (i2,t)=>.ok {st with i:=i2,L:=ao st.L idx t}
def lR(s:BY)(kind idx:Nat)(cC:PS->Except Nat PS)(st:PS):Except Nat PS:=
 if kind=5 then f_ s idx st else if kind=6 then .ok st else if kind=3\/kind=4 then mO s cC st else fm s cC st
def Mz(s:BY)(kind idx i:Nat)(er:dM)(L:zza):Except Nat PS:=
 if aK s i 123=true then(match dh s kind idx (s.size+1) (an s i 123) er L []with
  |.error b=>.error b
  |.ok (i2,E8,L2)=>.ok ⟨i2,L2,E8⟩)else .ok ⟨an s i 123,L,er⟩
def lj(s:BY)(i:Nat):BY:=s.extract (sk s i) (run am s (sk s i))
def cY(s:BY)(i:Nat):Int:=aB cK (lj s i) 0
def aC(s:BY):Nat->Int->Nat->PS->Except Nat PS
 |0,_,_,st=>.error st.i
 |f+1,up,depth,st=>
  if cY s st.i<0 then .error (sk s st.i)else
  lS (Mz s (cY s st.i).toNat st.L.length (run am s (sk s st.i)) (gV st.er (iM st.L.length depth) (sk s st.i)) (grown st.L ⟨(cY s st.i).toNat,aJ,[],[],up⟩)) λZZ=>lR s (cY s st.i).toNat st.L.length (aC s f (st.L.length:Int) (depth+1)) ZZ
structure ef(s:BY)(st:PS):Prop where
 il:st.i<=s.size
 ll:st.L.length<=st.i
 kl:∀j,(ae st.L j).kids.length<=st.L.length
structure sU(s:BY)(st Us:PS):Prop where
 good:ef s Us
 ge:st.i<=Us.i
 lg:st.L.length<=Us.L.length
theorem cP s i c:i<=an s i c:=by grind[an,fG]
def ef.at{s}{st}(h:ef s st){c}(a:c<256):ef s {st with i:=an s st.i c}:=
 ⟨dH a h.il,aA h.ll (cP _ _ _),h.kl⟩
def wL{s}{st a}{c}(b:c<256)(h:ef s st)(e:dd s st c=.ok a):sU s st a/\st.i<a.i:=by
 unfold dd at e;split at e;.rename_i d;injection e with e;subst e;have:=Bj d;have:=fG s st.i;exact⟨⟨h.at b,cP _ _ _,LE⟩,rn⟩
 grind
def sU.trans{s}{a b c}(h:sU s a b)(k:sU s b c):sU s a c:=⟨k.good,aA h.ge k.ge,aA h.lg k.lg⟩
def vJ{s}{N}{cC}(d:∀a b,ef s a->N<=a.L.length->cC a=.ok b->sU s a b/\a.i<b.i):∀f st g,ef s st->N<=st.L.length->fD s cC f st=.ok g->sU s st g/\st.i<g.i
 |0,st,g,h,m,e=>by cases e
 |f+1,st,g,h,m,e=>by
  unfold fD at e;split at e;.cases e
  .rename_i j r;obtain⟨k,t⟩:=d _ _ h m r;have n:=k.good.at (c:=44) dg;have p:sU s st {j with i:=an s j.i 44}:=⟨n,aA k.ge (cP _ _ _),k.lg⟩;have q:st.i<an s j.i 44:=zz006 t (cP _ _ _);split at e;.obtain⟨l,o⟩:=vJ d f _ _ n (aA m k.lg) e;exact⟨p.trans l,zz121 q o⟩
   .obtain⟨l,o⟩:=wL dg n e;exact⟨p.trans l,zz121 q o⟩
section
variable{s:BY} {N:Nat} {cC:PS->Except Nat PS}
theorem Ip(d:∀a b,ef s a->N<=a.L.length->cC a=.ok b->sU s a b/\a.i<b.i){st f}(h:ef s st)(m:N<=st.L.length)(e:fm s cC st=.ok f):sU s st f:=by
 unfold fm at e;have l:=h.at (c:=91) dg;have g:=l.at (c:=93) dg;have j:=cP s st.i 91;have k:=cP s (an s st.i 91) 93;have f2:sU s st {st with i:=an s (an s st.i 91) 93}:=⟨g,aA j k,LE⟩;split at e
 .split at e;.grind
  .exact f2.trans (vJ d _ _ _ g m e).1
 grind
theorem Mv(d:∀a b,ef s a->N<=a.L.length->cC a=.ok b->sU s a b/\a.i<b.i){st f}(h:ef s st)(k:N<=st.L.length)(e:mO s cC st=.ok f):sU s st f:=by
 unfold mO at e;have g:=h.at (c:=91) dg;have f1:sU s st {st with i:=an s st.i 91}:=⟨g,cP _ _ _,LE⟩;split at e
 .unfold lS at e;split at e;.cases e
  .rename_i m l;obtain⟨j,_⟩:=d _ _ g k l;exact f1.trans (j.trans (wL dg j.good e).1)
 grind
def B0:∀f p a i t,p<=s.size->qF s f p a=.ok (i,t)->p<i/\i<=s.size
 |0,p,a,i,t,e,h=>by cases h
 |f+1,p,a,i,t,e,h=>by
  have b:∀q,cR s q≠256->q<s.size:=λq c=>by grind[df]
  unfold qF at h;split at h;.cases h
  .rename_i d;have:=b p d;split at h;.grind
   .split at h
    .split at h;.rename_i c;have:=b (p+1) dg;have:=B0 f (p+2) _ i t dg h;omega
     .split at h;.rename_i c;have:=b (p+1) dg;have:=B0 f (p+2) _ i t dg h;omega
      grind
    .have:=B0 f (p+1) _ i t dg h;omega
def ky L k j t:(ae (ao L k t) j).kids=(ae L j).kids:=by grind[ao,aL,ae,aD]
def qr{idx}{st a}(h:ef s st)(e:f_ s idx st=.ok a):sU s st a:=by
 unfold f_ fo at e;split at e;.cases e
 .rename_i c t b;injection e with e;subst e;split at b
  .have g:=B0 _ _ _ _ _ (dH dg h.il) b;have d:=cP s st.i 34;refine⟨⟨g.2,?_,λj=>?_⟩,rn,by grind[ao]⟩;.show(ao st.L idx t).length<=c;unfold ao;have:=h.ll;grind
   .show(ae (ao st.L idx t) j).kids.length<=(ao st.L idx t).length;rw[ky];unfold ao;simpa using h.kl j
  grind
def FP(f:∀a b,ef s a->N<=a.L.length->cC a=.ok b->sU s a b/\a.i<b.i){c g}{st d}(h:ef s st)(j:N<=st.L.length)(e:lR s c g cC st=.ok d):sU s st d:=by
 unfold lR at e;split at e;.exact qr h e
 .split at e;.injection e with e;subst e;exact⟨h,LE,LE⟩
  grind[Mv,Ip]
end
theorem Ey L j k q n:(ae (setL L j k n) q).kids=(ae L q).kids:=by grind[setL,aL,ae,aD]
def yY{s}{a}{f}{L}{j i}{d}{e}{b}{c}{t}(h:dG s a f L j i d=.ok (e,b,c,t)):∀q,(ae c q).kids=(ae L q).kids:=by
 unfold dG at h;split at h;.cases h
 .split at h
  .unfold om at h;split at h;.cases h
   .unfold IP at h;grind[Ey]
  grind
def oZ{s}{e j}:∀f i g L k d a b,i<=s.size->dh s e j f i g L k=.ok (d,a,b)->i<d/\d<=s.size/\b.length=L.length/\∀q,(ae b q).kids=(ae L q).kids
 |0,i,g,L,k,d,a,b,hi,h=>by cases h
 |f+1,i,g,L,k,d,a,b,hi,h=>by
  unfold dh at h;split at h;.cases h
  .rename_i m o r t l;obtain⟨u,n,v,_⟩:=wK hi l;have w:=yY l;have x:=cP s m 59;have p:=dH (s:=s) (i:=m) (c:=59) dg n;split at h;.obtain⟨c1,c2,c3,c4⟩:=oZ f _ _ _ _ _ _ _ p h;grind
   grind[k_,cP,an,dH]
theorem cN L d:(grown L d).length=L.length+1:=by grind[grown]
def pw L d(hd:d.kids=[])(a:d.up<L.length)(h:∀j,(ae L j).kids.length<=L.length)j:(ae (grown L d) j).kids.length<=L.length+1:=by grind[ae,bF,bS,grown,gT,aL,aD]
def Om{s}{a b i}{d}{L}{st}(hi:i<=s.size)(e:Mz s a b i d L=.ok st):i<=st.i/\st.i<=s.size/\st.L.length=L.length/\∀q,(ae st.L q).kids=(ae L q).kids:=by
 unfold Mz at e;have o:=cP s i 123;have g:=dH (s:=s) (i:=i) (c:=123) dg hi;split at e
 .split at e;.cases e
  .rename_i p f j h;obtain⟨k,l,m,n⟩:=oZ _ _ _ _ _ _ _ _ g h;grind
 grind
def nu{s}{i}(h:¬cY s i<0)(hi:i<=s.size):sk s i<run am s (sk s i):=by
 by_cases e:sk s i<run am s (sk s i);.exact e
 .exfalso;have a:=ga am s (sk s i);have:lj s i=ByteArray.empty:=by unfold lj;rw[show run am s (sk s i)=sk s i by omega];apply jx;simp
  unfold cY at h;rw[this]at h;exact h (by decide)
def v_{s}:∀f  up  c st d,(up<st.L.length)->ef s st->aC s f up c st=.ok d->sU s st d/\st.i<d.i/\st.L.length<d.L.length
 |0,up,c,st,d,g,h,e=>by cases e
 |f+1,up,c,st,d,g,h,e=>by
  unfold aC at e;split at e;.cases e
  .rename_i t;have x:=nu t h.il;have A:=fG s st.i;have u:=gI am s _ (gu s st.i h.il);unfold lS at e;split at e;.cases e
   .rename_i k r;obtain⟨v,o,m,p⟩:=Om u r;rw[cN]at m;have n:ef s k:=⟨o,by have:=h.ll;omega,λj=>by rw[p,m];exact pw _ _ rfl g h.kl j⟩;have f1:sU s st k:=⟨n,dg,dg⟩;have f2:=FP (N:=st.L.length+1) (λa b q w l=>by obtain⟨y,z,_⟩:=v_ f (st.L.length:Int) (c+1) a b dg q l;grind) n dg e;exact⟨f1.trans f2,by have:=f2.ge;omega,by have:=f2.lg;omega⟩
def kS(L:zza):Nat->Nat
 |0=>0
 |n+1=>kS L n+(ae L n).kids.length
theorem tL{L a}:∀n,(∀j,j<n->(ae a j).kids=(ae L j).kids)->kS a n=kS L n
 |0,_=>rfl
 |n+1,h=>by show kS a n+(ae a n).kids.length=kS L n+(ae L n).kids.length;rw[tL n (λj b=>h j dg),h n dg]
def Ht{L a}{u}(hu:(ae a u).kids.length=(ae L u).kids.length+1):∀n,u<n->(∀j,j<n->j≠u->(ae a j).kids=(ae L j).kids)->kS a n=kS L n+1
 |0,h,_=>dg
 |n+1,h,c=>by
  show kS a n+(ae a n).kids.length=kS L n+(ae L n).kids.length+1;by_cases e:u=n;.grind[tL]
  .rw[Ht hu n dg (λj f b=>c j dg b),c n dg (λd=>e d.symm)];omega
structure ux(L:zza):Prop where
 up0:∀i:Nat,i<L.length->((ae L i).up<0↔i=0)
 upl:∀i:Nat,i<L.length->(ae L i).up<i
 kid:∀i k c:Nat,i<L.length->(ae L i).kids[k]?=some c->i<c/\c<L.length/\(ae L c).up=i
 rise:∀i k c d:Nat,i<L.length->(ae L i).kids[k]?=some c->(ae L i).kids[k+1]?=some d->c<d
 first:∀i c:Nat,i<L.length->(ae L i).kids[0]?=some c->c=i+1
 cnt:0<L.length->kS L L.length+1=L.length
def ux.empty:ux []:=⟨λi h=>absurd h At,λi h=>absurd h At,λi _ _ h=>absurd h At,λi _ _ _ h=>absurd h At,λi _ h=>absurd h At,λh=>absurd h At⟩
def ux.congr{L b}(h:ux L)(f:b.length=L.length)(e:∀j,(ae b j).kids=(ae L j).kids)(hu:∀j,(ae b j).up=(ae L j).up):ux b:=by
 refine⟨λi hi=>?_,λi hi=>?_,λi k c hi a=>?_,λi k c d hi a hd=>?_,λi c hi a=>?_,λg=>?_⟩;.rw[hu];exact h.up0 i dg
 .rw[hu];exact h.upl i dg
 .rw[e]at a;rw[hu,f];exact h.kid i k c dg a
 .rw[e]at a hd;exact h.rise i k c d dg a hd
 .rw[e]at a;exact h.first i c dg a
 .rw[f,tL _ (λj _=>e j)];exact h.cnt dg
def Fl(L:zza)(up:Int):Prop:=(up=-1/\L=[])\/∃u:Nat,up=(u:Int)/\u<L.length/\((ae L u).kids=[]->L.length=u+1)
def ux.grow{L}{d}(h:ux L)(hd:d.kids=[])(z:Fl L d.up):ux (grown L d)/\(∀j,j<L.length->(ae L j).kids.length<=(ae (grown L d) j).kids.length)/\(0<=d.up->(ae (grown L d) d.up.toNat).kids≠[])/\(ae (grown L d) L.length).kids=[]:=by
 rcases z with⟨hu,rfl⟩|⟨u,hu,n,J⟩
 .have e:grown [] d=[d]:=by unfold grown;rw[if_pos dg];rfl
  rw[e];have K:ae [d] 0=d:=rfl;refine⟨⟨λi hi=>?_,λi hi=>?_,λi k c hi g=>?_,λi k c q hi g=>?_,λi c hi g=>?_,λ_=>?_⟩,λj m=>absurd m At,λI=>dg,rn⟩;.grind
  .grind
  .grind
  .grind
  .grind
  .show 0+(ae [d] 0).kids.length+1=1;grind
 .have l:=cN L d;have e:=gT L d u dg dg;have F:ae (grown L d) u={ae L u with kids:=(ae L u).kids++[L.length]}:=by rw[e,aL _ rn,bF n]
  have y:ae (grown L d) L.length=d:=by rw[e,aD _ dg,bS]
  have G:∀j,j<L.length->j≠u->ae (grown L d) j=ae L j:=λj m r=>by grind[aD,bF]
  have v:∀j,j<L.length->(ae (grown L d) j).up=(ae L j).up:=λj m=>rn;have o:∀i k c:Nat,i<L.length+1->(ae (grown L d) i).kids[k]?=some c->(i<L.length/\(ae L i).kids[k]?=some c)\/(i=u/\k=(ae L u).kids.length/\c=L.length):=λi k c hi g=>rn;refine⟨⟨λi hi=>?_,λi hi=>?_,λi k c hi g=>?_,λi k c q hi g A=>?_,λi c hi g=>?_,λ_=>?_⟩,λj m=>?_,λ_=>?_,?_⟩
  .rw[l]at hi;by_cases p:i=L.length;.grind
   .rw[v i dg];exact h.up0 i dg
  .rw[l]at hi;by_cases p:i=L.length;.grind
   .rw[v i dg];exact h.upl i dg
  .rw[l]at hi;rcases o i k c hi g with⟨f,b⟩|⟨rfl,_,rfl⟩;.obtain⟨M,O,P⟩:=h.kid i k c f b;grind
   grind
  .rw[l]at hi;rcases o i k c hi g with⟨f,b⟩|⟨rfl,w,rfl⟩
   .rcases o i (k+1) q hi A with⟨_,t⟩|⟨rfl,w,rfl⟩;.exact h.rise i k c q f b t
    .exact(h.kid i k c f b).2.1
   grind
  .rw[l]at hi;rcases o i 0 c hi g with⟨f,b⟩|⟨rfl,w,rfl⟩;.exact h.first i c f b
   grind
  .rw[l];show kS (grown L d) L.length+(ae (grown L d) L.length).kids.length+1=L.length+1;rw[y,hd,Ht (L:=L) (u:=u) rn L.length n (λj m r=>rn)];have:=h.cnt dg;grind
  .grind
  all_goals simp_all
structure Da(L L':zza):Prop where
 gr:ux L'
 len:L.length<=L'.length
 kids:∀j,j<L.length->(ae L j).kids.length<=(ae L' j).kids.length
theorem Da.refl{L}(h:ux L):Da L L:=⟨h,LE,λ_ _=>LE⟩
def Da.trans{L a b}(h:Da L a)(k:Da a b):Da L b:=⟨k.gr,aA h.len k.len,λj c=>aA (h.kids j c) (k.kids j (zz006 c h.len))⟩
def Fg(u:Nat)(cC:PS->Except Nat PS):Prop:=∀a b,ux a.L->Fl a.L (u:Int)->cC a=.ok b->Da a.L b.L/\(ae b.L u).kids≠[]
def BC{s}{u}{cC}(j:Fg u cC):∀f st a,ux st.L->Fl st.L (u:Int)->eP s cC f st=.ok a->Da st.L a.L
 |0,st,a,h,g,e=>by cases e
 |f+1,st,a,h,g,e=>by
  unfold eP at e;split at e;.cases e
  .rename_i c k;obtain⟨d,m⟩:=j _ _ h g k;split at e
   .have b:u<c.L.length:=by
     rcases g with⟨l,_⟩|⟨n,l,b,_⟩;.omega
     .have:u=n:=dg;subst this;exact zz006 b d.len
    exact d.trans (BC j f {c with i:=an s c.i 44} _ d.gr (.inr ⟨u,rfl,b,λe=>absurd e m⟩) e)
   grind
def Ks{s}{a u}{cC}(g:Fg u cC){st b}(h:ux st.L)(k:Fl st.L (u:Int))(e:dP s a u cC st=.ok b):Da st.L b.L:=by
 unfold dP at e;split at e
 .split at e;.cases e
  .split at e;.grind[Da.refl]
   .rename_i c _ _;exact BC g _ {st with i:=sk s c} _ h k e
 .split at e
  .split at e;.cases e
   .split at e;.cases e
    .rename_i c _ _ d f;obtain⟨n,_⟩:=g {st with i:=c} d h k f;grind
  .split at e
   .split at e;.cases e
    .rename_i c t f;injection e with e;subst e;have m:(ao st.L u t).length=st.L.length:=by unfold ao;simp
     have l:=ky st.L u;refine⟨h.congr m (λj=>l j t) (λj=>?_),rn,λj _=>rn⟩;grind[ae,ao,aL,aD]
   grind[Da.refl]
def BJ{s}:∀f  up  c st g,ux st.L->Fl st.L up->dn s f up c st=.ok g->Da st.L g.L/\st.L.length<g.L.length/\(0<=up->(ae g.L up.toNat).kids≠[])
 |0,up,c,st,g,h,r,e=>by cases e
 |f+1,up,c,st,g,h,r,e=>by
  unfold dn at e;dsimp only at e;split at e;.cases e
  .split at e;.cases e
   .rename_i C j a J;obtain⟨d,hd⟩:∃d:Nd,(⟨(aB cK (s.extract (sk s st.i) (run am s (sk s st.i))) 0).toNat,a,[],[],up⟩:Nd)=d:=⟨_,rfl⟩;have m:d.kids=[]:=by rw[<-hd]
    have n:d.up=up:=by rw[<-hd]
    rw[hd]at e;obtain⟨p,t,v,F⟩:=h.grow m rn;have y:=cN st.L d;have l:=Ks (u:=st.L.length) (λa b w D k=>by obtain⟨K,_,M⟩:=BJ f (st.L.length:Int) (c+1) a b w D k;grind) (st:={i:=C,L:=grown st.L d,er:=j}) p (.inr ⟨st.L.length,rfl,rn,λ_=>y⟩) e;have q:(grown st.L d).length<=g.L.length:=l.len;refine⟨Da.trans ⟨p,dg,t⟩ l,dg,λG=>?_⟩;have x:=v dg;rw[n]at x;have o:up.toNat<(grown st.L d).length:=by
     rcases r with⟨A,_⟩|⟨O,A,z,_⟩;.omega
     .omega
    have H:(ae (grown st.L d) up.toNat).kids.length<=(ae g.L up.toNat).kids.length:=l.kids up.toNat o;intro I;simp_all
def wO{s}{L}(h:fF s=.ok L):ux L/\0<L.length:=by
 unfold fF at h;split at h;.cases h
 .split at h;.cases h
  .rename_i st a;split at h;.cases h
   .split at h;.cases h
    .injection h with h;subst h;obtain⟨b,c,_⟩:=BJ _ _ _ _ _ ux.empty (.inl ⟨rfl,rfl⟩) a;exact⟨b.gr,Nat.lt_of_le_of_lt LT c⟩
structure Nv(d:Nd):Prop where
 kind:d.kind<7
 len:d.attr.length=12
 att:∀k,k<12->d.attr[k]?.getD 0=aJ[k]?.getD 0\/(fE d.kind k=true/\0<=d.attr[k]?.getD 0/\d.attr[k]?.getD 0<=fY[k]?.getD 0)
 text:d.text=[]\/d.kind=5
structure Vl(s:BY)(L:zza):Prop where
 nv:∀j,j<L.length->Nv (ae L j)
 tl:∀j,j<L.length->(ae L j).text.length<=s.size
 id:∀i j,i<j->j<L.length->(0:Int)<(ae L j).attr[0]?.getD 0->(ae L i).attr[0]?.getD 0≠(ae L j).attr[0]?.getD 0
 cnt:L.length<=100
def oP(d:Nd):Prop:=d.kind<3\/(3<=d.kind/\d.kind<5/\d.kids.length=1)\/(5<=d.kind/\d.kids=[])
inductive Ch(L:Nat->Nd):Nat->List Nat->Nat->Nat->Prop
 |nil (d a:Nat):Ch L d [] a a
 |cons {d c:Nat} {r:zzh} {e1 e:Nat}:d<12->oP (L c)->Ch L (d+1) (L c).kids (c+1) e1->Ch L d r e1 e->Ch L d (c::r) c e
def Ch.le{L}{d}{b}{a e}(h:Ch L d b a e):a<=e:=by
 induction h with
 |nil=>omega
 |cons _ _ _ _ c f=>omega
def Ch.congr{L b}{d}{k}{a e}(h:Ch L d k a e):(∀j,a<=j->j<e->b j=L j)->Ch b d k a e:=by
 induction h with
 |nil d a=>intro _;exact .nil d a
 |@cons d c r e1 e f g l m p n=>intro i;have q:=l.le;have t:=m.le;have o:=i c LE dg;refine .cons (e1:=e1) f rn ?_ (n (λj f g=>i j dg g));grind
def Ch.app{L}{d}{f}{a b}(h:Ch L d f a b){c}{e}(k:Ch L d c b e):Ch L d (f++c) a e:=by
 induction h with
 |nil d a=>exact k
 |cons g i j m n l=>exact .cons g i j (l k)
structure Av(kind:Nat)(L:zza)(a:zzc):Prop where
 len:a.length=12
 att:∀k,k<12->a[k]?.getD 0=aJ[k]?.getD 0\/(fE kind k=true/\0<=a[k]?.getD 0/\a[k]?.getD 0<=fY[k]?.getD 0)
 id:(0:Int)<a[0]?.getD 0->em L (a[0]?.getD 0)=false
theorem dA{b}{f}{c p}(h:bN b f c p=none):b=false/\f=none:=by
 unfold bN at h;cases b with
 |false=>grind
 |true=>unfold fh at h;grind
theorem rz{f}{c p}(h:fh f c p=none):False:=by unfold fh at h;grind
def OA s j:0<=dv s j (run aE s j-j):=(rL s j _ (λt a=>by grind[l_,aE,run])).1
theorem mw{s}{b}{L}{i}{u}{a}{seen}{C}{l}{t}{j}(h:eM s b L i u a seen=.ok (C,l,t,j))(x:l=none)(p:Av b L a):u=none/\Av b L t:=by
 unfold eM at h;dsimp only at h;split at h;.cases h
 .split at h;.cases h
  .split at h;.cases h
   .rename_i q _ _;split at h;.grind[rz]
    .rename_i r;have z:=OA s (sk s q);obtain⟨n,m⟩:=af (dv s (sk s q) (run aE s (sk s q)-sk s q));obtain⟨g,f⟩:=af (aB bu (s.extract (sk s i) (run am s (sk s i))) 0);have d:=gS (s.extract (sk s i) (run am s (sk s i))) bu 0;rw[f]at d;rw[f,m]at h;rw[m]at z;rw[f]at r;injection h with h;injection h with E h;injection h with c h;injection h with w F;rw[x]at c;obtain⟨I,c⟩:=dA c;obtain⟨D,c⟩:=dA c;obtain⟨J,c⟩:=dA c;have A:0<=g/\fE b g.toNat=true:=by
      constructor;.omega
      .grind
     have o:g.toNat<12:=by have:bu.length=12:=rfl;rw[this]at d;rcases d with e|e<;>omega
     refine⟨c,?_⟩;subst w;have H:n<=fY[g.toNat]?.getD 0:=by simpa using D
     have G:g.toNat<a.length:=by rw[p.len];exact o
     refine⟨by rw[xK];exact p.len,λk y=>?_,λv=>?_⟩
     .by_cases e:g.toNat=k;.grind
      .rw[qB e];exact p.att k y
     .by_cases e:g.toNat=0;.grind
      .rw[qB e]at v|-;exact p.id v
theorem oX{s}{c}{L}:∀f i d a seen g b e,cX s c L f i d a seen=.ok (g,b,e)->b=none->Av c L a->d=none/\Av c L e
 |0,i,d,a,seen,g,b,e,h,m,o=>by cases h
 |f+1,i,d,a,seen,g,b,e,h,m,o=>by
  unfold cX at h;split at h;.cases h
  .rename_i j p u n q;split at h
   .obtain⟨r,t⟩:=oX f _ _ _ _ _ _ _ h m
     (by
      -- the attribute ahead has w l k,seen from behind
      have:∀f i d a seen g b e,cX s c L f i d a seen=.ok (g,b,e)->b=none->d=none:=by
       intro f;induction f with
       |zero=>intro i d a seen g b e h;cases h
       |succ f v=>intro i d a seen g b e h m;unfold cX at h;grind[eM,rz,dA]
      grind[mw]);exact⟨(mw q r o).1,t⟩
   grind[mw]
theorem Kq a L:Av a L aJ:=⟨rfl,λk b=>.inl rfl,λh=>absurd h (by decide)⟩
def oY{s}{a}{L}{i}{d}{e}{b}{c}(h:gD s a L i d=.ok (e,b,c))(f:b=none):d=none/\Av a L c:=by grind[gD,oX,Kq]
def tU{s}:∀f p a i t,qF s f p a=.ok (i,t)->t.length+p<=i+a.length/\(p<=s.size->i<=s.size)
 |0,p,a,i,t,h=>by cases h
 |f+1,p,a,i,t,h=>by
  have b:∀q,cR s q≠256->q<s.size:=λq d=>by grind[df]
  unfold qF at h;split at h;.cases h
  .rename_i e;have:=b p e;split at h;.grind
   .split at h
    .split at h;.rename_i d;have g:=b (p+1) dg;have c:=tU f (p+2) _ i t h;grind
     .split at h;.rename_i d;have g:=b (p+1) dg;have c:=tU f (p+2) _ i t h;grind
      grind
    .have c:=tU f (p+1) _ i t h;grind
def MI{s}{i j}{t}(h:fo s i=.ok (j,t)):t.length<=s.size:=by
 unfold fo at h;split at h;.rename_i b;have a:=tU _ _ _ _ _ h;grind[an,sk,aK,df]
 grind
theorem fS L d j(b:j<L.length):(ae (grown L d) j).kind=(ae L j).kind/\(ae (grown L d) j).attr=(ae L j).attr/\(ae (grown L d) j).text=(ae L j).text/\(ae (grown L d) j).up=(ae L j).up/\((j:Int)≠d.up->ae (grown L d) j=ae L j)/\((j:Int)=d.up->ae (grown L d) j={ae L j with kids:=(ae L j).kids++[L.length]}):=by grind[grown,bF,aL,aD]
theorem jJ L d:ae (grown L d) L.length=d:=by grind[grown,bS]
theorem GL{L}{n}(h:em L n=false)i(hi:i<L.length):(ae L i).attr[0]?.getD 0≠n:=by grind[em,ae]
def Vl.grown{s:BY}{L:zza}{d:Nd}(h:Vl s L)(hd:Nv d)(p:d.text.length<=s.size)(hid:(0:Int)<d.attr[0]?.getD 0->em L (d.attr[0]?.getD 0)=false)(n:L.length<100):Vl s (grown L d):=by
 have o:=cN L d;refine⟨λj k=>?_,λj k=>?_,λi j f k g=>?_,dg⟩
 .by_cases e:j=L.length;.grind[jJ]
  .obtain⟨a,b,c,_⟩:=fS L d j dg;have:=h.nv j dg;exact⟨by rw[a];exact this.kind,by rw[b];exact this.len,by rw[a,b];exact this.att,by rw[a,c];exact this.text⟩
 .by_cases e:j=L.length;.grind[jJ]
  .obtain⟨a,b,c,_⟩:=fS L d j dg;rw[c];exact h.tl j dg
 .have l:=(fS L d i dg).2.1;by_cases e:j=L.length;.grind[jJ,GL]
  .have m:=(fS L d j dg).2.1;rw[m]at g|-;rw[l];exact h.id i j f dg g
theorem e_ L k t j:(ae (ao L k t) j).kind=(ae L j).kind/\(ae (ao L k t) j).attr=(ae L j).attr/\(ae (ao L k t) j).kids=(ae L j).kids/\(ae (ao L k t) j).up=(ae L j).up/\(j≠k->ae (ao L k t) j=ae L j)/\(j=k->j<L.length->ae (ao L k t) j={ae L j with text:=t}):=by grind[ao,aL,ae,aD]
def Vl.texted{s}{L}{k}{t}(h:Vl s L)(p:k<L.length)(o:(ae L k).kind=5)(q:t.length<=s.size):Vl s (ao L k t):=by
 have n:(ao L k t).length=L.length:=by unfold ao;simp
 refine⟨λj g=>?_,λj g=>?_,λi j d g f=>?_,by rw[n];exact h.cnt⟩
 .obtain⟨a,b,l,_,c,m⟩:=e_ L k t j;have:=h.nv j dg;refine⟨by rw[a];exact this.kind,by rw[b];exact this.len,by rw[a,b];exact this.att,?_⟩;by_cases e:j=k;.grind
  .rw[c e];exact this.text
 .obtain⟨a,b,l,_,c,m⟩:=e_ L k t j;by_cases e:j=k;.grind
  .rw[c e];exact h.tl j dg
 .rw[(e_ L k t j).2.1]at f|-;rw[(e_ L k t i).2.1];exact h.id i j d dg f
structure Sj(s:BY)(L L':zza)(up:Int)(depth:Nat):Prop where
 vl:Vl s L'
 lt:L.length<L'.length
 ch:Ch (ae L') depth [L.length] L.length L'.length
 upE:(ae L' L.length).up=up
 old:∀j:Nat,j<L.length->(j:Int)≠up->ae L' j=ae L j
 par:∀j:Nat,j<L.length->(j:Int)=up->ae L' j={ae L j with kids:=(ae L j).kids++[L.length]}
structure Oh(s:BY)(L L':zza)(u d:Nat)(ks:zzh):Prop where
 vl:Vl s L'
 le:L.length<=L'.length
 ch:Ch (ae L') d ks L.length L'.length
 old:∀j:Nat,j<L.length->j≠u->ae L' j=ae L j
 par:ae L' u={ae L u with kids:=(ae L u).kids++ks}
def Sj.kids{s}{L b:zza}{u d}(hu:u<L.length)(h:Sj s L b (u:Int) d):Oh s L b u d [L.length]:=
 ⟨h.vl,Nat.le_of_lt h.lt,h.ch,λj c a=>h.old j c (λe=>a (JF e)),h.par u hu rfl⟩
def Oh.trans{s}{L c e}{u d}{g b}(hu:u<L.length)(h:Oh s L c u d g)(k:Oh s c e u d b):Oh s L e u d (g++b):=by
 refine⟨k.vl,aA h.le k.le,?_,λj f a=>(k.old j (zz006 f h.le) a).trans (h.old j f a),?_⟩;.exact(h.ch.congr (λj l i=>k.old j i dg)).app k.ch
 .rw[k.par,h.par,cA]
def Nu(s:BY)(u d:Nat)(cC:PS->Except Nat PS):Prop:=∀a b,Vl s a.L->u<a.L.length->cC a=.ok b->b.er=none->a.er=none/\Sj s a.L b.L (u:Int) d
def vK{s}{u d}{cC:PS->Except Nat PS}(back:∀a b,cC a=.ok b->b.er=none->a.er=none)(l:Nu s u d cC):∀f st c,Vl s st.L->u<st.L.length->eP s cC f st=.ok c->c.er=none->st.er=none/\∃o,Oh s st.L c.L u d o
 |0,st,c,h,hu,e,k=>by cases e
 |f+1,st,c,h,hu,e,k=>by
  have bk:∀f st c,eP s cC f st=.ok c->c.er=none->st.er=none:=by
   intro f;induction f with
   |zero=>intro st c e;cases e
   |succ f r=>grind[eP,an]
  unfold eP at e;split at e;.cases e
  .rename_i g n;split at e;.have p:g.er=none:=bk _ {g with i:=an s g.i 44} _ e k;obtain⟨m,j⟩:=l _ _ h hu n p;obtain⟨_,o,q⟩:=vK back l f {g with i:=an s g.i 44} _ j.vl (zz121 hu j.lt) e k;exact⟨m,_,(j.kids hu).trans hu q⟩
   .split at e;.cases e
    .injection e with e;subst e;obtain⟨m,j⟩:=l _ _ h hu n k;exact⟨m,_,j.kids hu⟩
structure SG(s:BY)(L L':zza)(u d:Nat):Prop where
 vl:Vl s L'
 le:L.length<=L'.length
 ch:Ch (ae L') d (ae L' u).kids L.length L'.length
 ok:oP (ae L' u)
 upE:(ae L' u).up=(ae L u).up
 old:∀j:Nat,j<L.length->j≠u->ae L' j=ae L j
def FS{s}{c u d}{cC:PS->Except Nat PS}(back:∀a b,cC a=.ok b->b.er=none->a.er=none)(y:Nu s u d cC){st g}(h:Vl s st.L)(hu:u<st.L.length)(G:(ae st.L u).kind=c)(f:(ae st.L u).kids=[])(e:dP s c u cC st=.ok g)(n:g.er=none):st.er=none/\SG s st.L g.L u d:=by
 have p:∀{k:zza} {l:zzh},Oh s st.L k u d l->(c<3\/(3<=c/\c<5/\l.length=1))->SG s st.L k u d:=fun{k l} q H=>by
  have D:(ae k u).kids=l:=by rw[q.par,f];rfl
  have E:(ae k u).kind=c:=by rw[q.par];exact G
  refine⟨q.vl,q.le,by rw[D];exact q.ch,?_,by rw[q.par],q.old⟩;grind[oP]
 have C:5<=c\/c<3->SG s st.L st.L u d:=λH=>by refine⟨h,LE,by rw[f];exact .nil _ _,?_,rfl,λ_ _ _=>rfl⟩;grind[oP]
 unfold dP at e;split at e
 .rename_i F;split at e;.cases e
  .split at e;.grind
   .rename_i o _ _;obtain⟨z,l,A⟩:=vK back y _ {st with i:=sk s o} _ h hu e n;grind
 .rename_i F;split at e
  .rename_i x;split at e;.cases e
   .split at e;.cases e
    .rename_i o _ _ m v;split at e;.cases e
     .injection e with e;have r:m.er=none:=by rw[<-e]at n;exact n
      obtain⟨z,A⟩:=y {st with i:=o} m h hu v r;refine⟨z,?_⟩;rw[<-e];exact p (A.kids hu) (.inr ⟨dg,x,rfl⟩)
  .rename_i x;split at e
   .rename_i I;split at e;.cases e
    .rename_i o t v;injection e with e;subst e;refine⟨n,h.texted hu dg (MI v),?_,?_,?_,?_,λj J w=>(e_ st.L u t j).2.2.2.2.1 w⟩;.grind[ao]
     .show Ch (ae (ao st.L u t)) d (ae (ao st.L u t) u).kids st.L.length (ao st.L u t).length;rw[(e_ st.L u t u).2.2.1,f];have:(ao st.L u t).length=st.L.length:=by unfold ao;simp
      rw[this];exact .nil _ _
     all_goals grind[oP,e_]
   grind
def rX{s}{cC:PS->Except Nat PS}(back:∀a b,cC a=.ok b->b.er=none->a.er=none):∀f st c,eP s cC f st=.ok c->c.er=none->st.er=none
 |0,st,c,e,g=>by cases e
 |f+1,st,c,e,g=>by
  unfold eP at e;split at e;.cases e
  .rename_i d h;split at e;.exact back _ _ h (rX back f {d with i:=an s d.i 44} _ e g)
   grind
def rG{s}{c u}{cC:PS->Except Nat PS}(back:∀a b,cC a=.ok b->b.er=none->a.er=none){st d}(e:dP s c u cC st=.ok d)(f:d.er=none):st.er=none:=by
 unfold dP at e;split at e
 .split at e;.cases e
  .split at e;.grind
   .rename_i g _ _;exact rX back _ {st with i:=sk s g} _ e f
 grind
def jS{s}:∀f  up  b st c,dn s f up b st=.ok c->c.er=none->st.er=none
 |0,up,b,st,c,e,d=>by cases e
 |f+1,up,b,st,c,e,d=>by
  unfold dn at e;dsimp only at e;split at e;.cases e
  .split at e;.cases e
   .rename_i j g a i;have h:=rG (jS f _ _) e d;exact(dA (dA (oY i h).1).2).2
def wa{s}:∀f  up  c st g,Vl s st.L->up<(st.L.length:Int)->dn s f up c st=.ok g->g.er=none->Sj s st.L g.L up c
 |0,up,c,st,g,h,P,e,t=>by cases e
 |f+1,up,c,st,g,h,P,e,t=>by
  unfold dn at e;dsimp only at e;split at e;.cases e
  .rename_i w;split at e;.cases e
   .rename_i Q p a K;have C:=rG (jS f _ _) e t;obtain⟨D,k⟩:=oY K C;obtain⟨q,E⟩:=dA D;obtain⟨r,S⟩:=dA E;have q:c<12:=by
     have:¬12<=c:=by simpa using q
     omega
    have r:st.L.length<100:=by
     have:¬100<=st.L.length:=by simpa using r
     omega
    have l:=gS (s.extract (sk s st.i) (run am s (sk s st.i))) cK 0;obtain⟨z,x⟩:=af (aB cK (s.extract (sk s st.i) (run am s (sk s st.i))) 0);rw[x]at e l w k;have v:z.toNat<7:=by have:cK.length=7:=rfl;rw[this]at l;rcases l with e|e<;>omega
    obtain⟨d,hd⟩:∃d:Nd,(⟨z.toNat,a,[],[],up⟩:Nd)=d:=⟨_,rfl⟩;rw[hd]at e;have y:Nv d:=by rw[<-hd];exact⟨v,k.len,k.att,.inl rfl⟩
    have M:=h.grown y rn (by rw[<-hd];exact k.id) r;have T:=cN st.L d;have U:=jJ st.L d;obtain⟨_,m⟩:=FS (d:=c+1) (jS f _ _) (λa b A V n o=>⟨jS f _ _ _ _ n o,wa f (st.L.length:Int) (c+1) a b A dg n o⟩) (st:={i:=Q,L:=grown st.L d,er:=p}) M rn rn rn e t;have G:(grown st.L d).length<=g.L.length:=m.le;have J:d.up=up:=by rw[<-hd]
    have F:Ch (ae g.L) (c+1) (ae g.L st.L.length).kids (grown st.L d).length g.L.length:=m.ch;have I:(ae g.L st.L.length).up=(ae (grown st.L d) st.L.length).up:=m.upE;have H:∀j:Nat,j<(grown st.L d).length->j≠st.L.length->ae g.L j=ae (grown st.L d) j:=m.old;refine⟨m.vl,dg,.cons q m.ok rn (.nil _ _),rn,λj O u=>?_,λj O u=>?_⟩;all_goals grind[fS]
structure ep(s:BY)(L:zza):Prop where
 sz:s.size<=4000
 gr:ux L
 pos:0<L.length
 vl:Vl s L
 ch:Ch (ae L) 0 [0] 0 L.length
 up0:(ae L 0).up=-1
def ea{s}{L}(h:fF s=.ok L):ep s L:=by
 obtain⟨d,e⟩:=wO h;unfold fF at h;split at h;.cases h
 .rename_i f;split at h;.cases h
  .rename_i st c;split at h;.cases h
   .split at h;.cases h
    .rename_i b;injection h with h;subst h;have:=wa _ _ _ _ _ ⟨λj a=>absurd a At,λj a=>absurd a At,λi j _ a=>absurd a At,At⟩ dg c b;exact⟨dg,d,e,this.vl,this.ch,this.upE⟩
def Kn(W:AT):Prop:=∀j,j<7->W.cell? (aq 8 j)=some (.string (cK[j]?.getD ByteArray.empty))
def Kn.fr{W W'}{B r}(h:Kn W)(f:Fr B r W W')(b:r<B)(c:9<=r):Kn W':=λj a=>f.cell (h j a) rn rn
def Mem(W0 W:AT)(rb ab B:Nat)(E:zzi)(s:BY)(st:PS):Prop:=Nn W rb ab B E/\Kn W/\ef s st/\Fr B rb W0 W/\∃nv KV,PR W rb s st.i (Sq ab 12 12) nv (dW E st.er)/\PN W B nv st.L KV
def di(w w':AT)(e:Ending)(rb ab B:Nat)(E:zzi)(s:BY)(r:Except Nat PS):Prop:=match r with
 |.error b=>e=.panicked [{v:=cB (b:Int) (aT (E 2)),recovered:=false}]/\Fr B rb w w'
 |.ok st=>e=Rw (.tuple #[])/\Mem w w' rb ab B E s st
def AH(rb ab B:Nat)(E:zzi)(s:BY)(f:Nat):Prop:=∀(up:Int) (depth:Nat) (st:PS) (w0 w:AT),Mem w0 w rb ab B E s st->(up=-1\/(0<=up/\up<st.L.length))->depth<=st.i->s.size<f+st.i->
 Cw 92 #[Pq rb,Iq up,Iq (depth:Int)] w λe w'=>di w0 w' e rb ab B E s (aC s f up depth st)
def Mem.grown{c W W'}{a ab B}{E}{s}{st}{i}(h:Mem c W a ab B E s st)(g:W.grownBy W' (some a))(d:ef s {st with i:=i})(j:∀nv KV,PR W a s st.i (Sq ab 12 12) nv (dW E st.er)->PN W B nv st.L KV->PR W' a s i (Sq ab 12 12) nv (dW E st.er)):Mem c W' a ab B E s {st with i:=i}:=by obtain⟨e,k,_,f,nv,KV,p,n⟩:=h;have b:=Fr.grown (r:=a) g e.le;exact⟨e.fr b,k.fr b e.rbB e.lo,d,f.trans b,nv,KV,j nv KV p n,n.up (Up.grown g e.rbB)⟩
def mK{d W}{a ab B}{E}{s}{st}(c:Nat)(h:Mem d W a ab B E s st)(q:s.size<=1073741824)(l:c<256):
 Cw 164 #[Pq a,.int .u8 (c:Int)] W λe w'=>e=Rw (.bool (aK s st.i c))/\Mem d w' a ab B E s {st with i:=an s st.i c}:=by obtain⟨e,k,g,f,nv,KV,p,n⟩:=h;refine(jX a s st.i _ nv _ c W p dg g.il l).mono ?_;rintro o w' ⟨rfl,m,j⟩;have b:=Fr.grown (r:=a) j e.le;exact⟨rfl,e.fr b,k.fr b e.rbB e.lo,g.at l,f.trans b,nv,KV,m,n.up (Up.grown j e.rbB)⟩
def dE{m W}{a ab B}{E}{s}{st}(c:Nat)(h:Mem m W a ab B E s st)(t:s.size<=1073741824)(j:c<256):
 Cw 167 #[Pq a,.int .u8 (c:Int)] W λe w'=>di m w' e a ab B E s (dd s st c):=by
 obtain⟨e,k,g,f,nv,KV,p,n⟩:=h;unfold dd;by_cases l:aK s st.i c=true;.rw[if_pos l];refine(fQ a s st.i _ nv _ c W p dg g.il j l).mono ?_;rintro o w' ⟨rfl,q,b⟩;have d:=Fr.grown (r:=a) b e.le;exact⟨rfl,e.fr d,k.fr d e.rbB e.lo,g.at j,f.trans d,nv,KV,q,n.up (Up.grown b e.rbB)⟩
 .rw[if_neg l];have lo:=e.lo;refine(gR a s st.i _ nv _ (E 2) c W p dg g.il j rn dg e.g2).mono ?_;rintro o w' ⟨rfl,b⟩;exact⟨rfl,f.trans (Fr.grown b e.le)⟩
def Mem.prI{b W:AT}{a ab B:Nat}{E:zzi}{s:BY}{st:PS}(h:Mem b W a ab B E s st):prI W a=st.i:=by obtain⟨e,k,g,f,nv,KV,p,n⟩:=h;exact p.prI
def nG(o ab B:Nat)(E:zzi)(s:BY)(f:Nat)(hnode:AH o ab B E s f)(O:s.size<=1073741824)(up:Nat)(a:Nat)(st:PS)(v w:AT)(h:Mem v w o ab B E s st)(zk:up<st.L.length)(hd:a<=st.i)(hf:s.size<f+st.i):
 Cw 168 #[Pq o,Iq (up:Int),Iq (a:Int)] w λe w'=>di v w' e o ab B E s (fm s (aC s f (up:Int) a) st):=by
 have HN:=qH<|hnode;have u:Hid (Cw 167 #[Pq o,.int .u8 91] w λe w'=>di v w' e o ab B E s (dd s st 91)):=dE 91 h O dg;by_cases A:aK s st.i 91=true
 .have F:dd s st 91=.ok {st with i:=an s st.i 91}:=by unfold dd;rw[if_pos A]
  rw[F]at u;have x:Hid (fm s (aC s f (up:Int) a) st=if aK s (an s st.i 91) 93=true then .ok {st with i:=an s (an s st.i 91) 93}else fD s (aC s f (up:Int) a) (s.size+1) {st with i:=an s (an s st.i 91) 93}):=qH<|by unfold fm;rw[if_pos A]
  have H:=cP s st.i 91;have I:=cP s (an s st.i 91) 93;obtain⟨R,V⟩:=af (fm s (aC s f (up:Int) a) st);rw[V]at x|-;clear h hnode V F A;go_enter func168,ntmps168;go_wp2_with fail;refine Ut u ?_;rintro w1 U;have r:Hid (Cw 164 #[Pq o,.int .u8 93] w1 λe w'=>e=Rw (.bool (aK s (an s st.i 91) 93))/\Mem v w' o ab B E s {st with i:=an s (an s st.i 91) 93}):=mK 93 U O dg;clear U u;by_cases t:aK s (an s st.i 91) 93=true
  .have k:Hid (R=.ok {st with i:=an s (an s st.i 91) 93}):=qH<|by rw[x.out,if_pos t]
   rw[t]at r;clear x t;go_wp2_with fail;refine Ut r ?_;rintro w2 h2;have Q:=qH<|h2;clear h2 r;go_wp2;try simp only[Exit.inBlock,Exit.then]
   refine bodyPost_ret (results_none rfl _ _ _) rfl ?_;show di _ _ _ _ _ _ _ _ _;rw[k.out];exact⟨rfl,Q⟩
  .have k:Hid (fD s (aC s f (up:Int) a) (s.size+1) {st with i:=an s (an s st.i 91) 93}=R):=qH<|by rw[x.out,if_neg t]
   rw[show aK s (an s st.i 91) 93=false by grind]at r;clear x t;obtain⟨K,l⟩:∃z:PS,{st with i:=an s (an s st.i 91) 93}=z:=⟨_,rfl⟩;have Y:st.i<=K.i:=by rw[<-l];exact aA H I
   have Z:K.L.length=st.L.length:=by rw[<-l]
   rw[l]at r k;clear l H I;go_wp2_with fail;refine Ut r ?_;rintro w2 h2;have Q:=qH<|h2;clear h2 r;go_wp2;go_loopw[6] (λb wr=>∃(j:PS) (g:Nat) (m:Bool),b=.bool m/\Hid (Mem v wr o ab B E s j)/\st.i<=j.i/\st.L.length<=j.L.length/\s.size<g+j.i/\Hid ((if m=true then fD s (aC s f (up:Int) a) g j else dd s j 93)=R)) (λb wr=>2*(s.size-prI wr o)+(match b with|.bool true=>1|_=>0));.grind
   clear Q k Y Z;obtain⟨j,g,m,rfl,D,zi,zj,hg,p⟩:=hrel;have HI:=qH<|D.prI;have X:=D.2.2.1.il;cases m with
   |true=>
    obtain⟨g,rfl⟩:∃q,g=q+1:=⟨g-1,dg⟩;have C:=qH<|HN (up:Int) a j v wr D (.inr ⟨dg,dg⟩) dg dg;cases y:aC s f (up:Int) a j with
    |error b=>
     have k:Hid (R=.error b):=qH<|by rw[<-p.out];simp only[if_true];unfold fD;rw[y]
     rw[y]at C;clear y p;go_wp2_with fail;refine Ut C ?_;rintro w3 f3;refine⟨rfl,?_⟩;rw[k.out];exact⟨rfl,f3⟩
    |ok d=>
     obtain⟨q1,q2,q3⟩:=v_ f (up:Int) a j d dg D.2.2.1 y;have q4:=q1.good.il;have k:Hid ((if aK s d.i 44=true then fD s (aC s f (up:Int) a) g {d with i:=an s d.i 44}else dd s {d with i:=an s d.i 44} 93)=R):=by
      show _=_;rw[<-p.out];simp only[if_true];conv=>rhs;unfold fD
      rw[y]
     rw[y]at C;clear y p q1;go_wp2_with fail;refine Ut C ?_;rintro w3 G;have r:Hid (Cw 164 #[Pq o,.int .u8 44] w3 λe w'=>e=Rw (.bool (aK s d.i 44))/\Mem v w' o ab B E s {d with i:=an s d.i 44}):=mK 44 G O dg;have zg:=cP s d.i 44;have zh:=dH (s:=s) (i:=d.i) (c:=44) dg q4;obtain⟨m',J⟩:=af (aK s d.i 44);obtain⟨M,n⟩:∃z:PS,{d with i:=an s d.i 44}=z:=⟨_,rfl⟩;have Y:M.i=an s d.i 44:=by rw[<-n]
     have Z:M.L.length=d.L.length:=by rw[<-n]
     rw[J,n]at r k;clear G C n J;go_wp2_with fail;refine Ut r ?_;rintro w4 T;have ze:=qH<|T;have P:=qH<|T.prI;clear T r;go_wp2;go_roundw;.grind
     .rw[P.out,HI.out];grind
   |false=>
    have u:Hid (Cw 167 #[Pq o,.int .u8 93] wr λe w'=>di v w' e o ab B E s (dd s j 93)):=dE 93 D O dg;have k:Hid (dd s j 93=R):=qH<|by have:=p.out;simpa using this
    rw[k.out]at u;clear p k;cases R with
    |error b=>go_wp2_with fail;refine Ut u ?_;rintro w3 f3;exact⟨rfl,rfl,f3⟩
    |ok d=>go_wp2_with fail;refine Ut u ?_;rintro w3 G;have S:=qH<|G;clear G u;go_wp2;go_end0;exact⟨rfl,S⟩
 .have F:dd s st 91=.error (sk s st.i):=by unfold dd;rw[if_neg A]
  have x:Hid (fm s (aC s f (up:Int) a) st=.error (sk s st.i)):=qH<|by unfold fm;rw[if_neg A]
  rw[F]at u;clear h hnode F A;go_enter func168,ntmps168;go_wp2_with fail;refine Ut u ?_;rintro w1 f1;refine⟨rfl,?_⟩;rw[x.out];exact⟨rfl,f1⟩
def Sl(ab:Nat):Fd:=Sq ab 12 12
def Pn d a k:(jQ d a k).length=5:=rfl
structure RD(W:AT)(B:Nat)(nv:Fd)(L:zza)(AV:Nat->Nat)(KV:Nat->Fd):Prop where
 nr:NR W B 176 5 nv L.length (λj=>jQ (ae L j) (Sl (AV j)) (KV j)) KV (λj=>(ae L j).kids)
 len:∀j,j<L.length->(ae L j).attr.length=12
 att:∀j,j<L.length->B<=AV j/\dw W (AV j) (λk=>Iq ((ae L j).attr[k]?.getD 0))
 sepK:∀i j,i<L.length->j<L.length->(KV j).ownBlock≠some (AV i)
 sepN:∀i,i<L.length->nv.ownBlock≠some (AV i)
section
variable{W W':AT} {B:Nat} {nv:Fd} {L:zza} {AV:Nat->Nat} {KV:Nat->Fd}
def RD.nothing W B AV KV:RD W B (.slice none 0 0) [] AV KV:=
 ⟨NR.nothing _ _ _ _ _ _ _,λj h=>absurd h rn,λj h=>absurd h rn,λi j h=>absurd h rn,λi h=>absurd h rn⟩
def RD.up(h:RD W B nv L AV KV)(hu:Up B W W'):RD W' B nv L AV KV:=
 ⟨h.nr.up hu,h.len,λj a=>⟨(h.att j a).1,(h.att j a).2.keep hu.size (hu.block _ (h.att j a).1 (h.att j a).2.1)⟩,h.sepK,h.sepN⟩
def RD.ids(h:RD W B nv L AV KV){e}(n:e<B):Np W e nv L:=by
 by_cases d:L=[]
 .subst d;obtain⟨o,m⟩:=h.nr.row;rcases cm m with⟨rfl,_⟩|⟨g,a,rfl,f,c,i,j⟩;.exact .inl ⟨rfl,rfl⟩
  .exact .inr ⟨g,a,AV,rfl,c,dg,λk b=>absurd b rn⟩
 .have l:=iQ.2 d;obtain⟨g,a,rfl,f,c,i,j⟩:=h.nr.form l;refine .inr ⟨g,a,AV,rfl,c,dg,λk b=>⟨h.nr.cell b rfl,(h.att k b).2.1,by have:=(h.att k b).1;omega,?_⟩⟩;have:=((h.att k b).2.2 0 dg).1;grind[ae]
def RD.app{nv'}{p}{d}{ab}(h:RD W B nv L AV KV)(u:W.ownsRow B 176 5 nv L.length p)(o:W'.ownsRow B 176 5 nv' (L.length+1) (p++jQ d (Sl ab) (.slice none 0 0)))(c:W.grownBy W' nv.ownBlock)(m:nv'.ownBlock=nv.ownBlock\/nv'.ownBlock=some W.heap.size)(w:d.attr.length=12)(v:d.kids=[])(q:B<=ab)(g:dw W ab (λk=>Iq (d.attr[k]?.getD 0)))(r:∀j,j<L.length->(KV j).ownBlock≠some ab)(l:nv.ownBlock≠some ab):
 RD W' B nv' (L++[d]) (λj=>if j=L.length then ab else AV j) (λj=>if j=L.length then .slice none 0 0 else KV j):=by
 have n:(L++[d]).length=L.length+1:=At;have b:=λj a=>(h.att j a).2.keep c.size (c.block _ (h.att j a).2.1 (λe=>h.sepN j a e.symm));refine⟨?_,λj a=>?_,λj a=>?_,λi j hi a=>?_,λi hi=>?_⟩;.rw[n];refine(h.nr.app (by decide) u o c (Pn _ _ _)).congr (λj a=>?_) (λj a=>rfl) (λj a=>?_);all_goals grind[bS,bF]
 .by_cases e:j=L.length;.grind[bS]
  .rw[bF dg];exact h.len j dg
 .by_cases e:j=L.length;.subst e;rw[if_pos rfl,bS];exact⟨q,g.keep c.size (c.block _ g.1 (λe=>l e.symm))⟩
  .rw[if_neg e,bF dg];exact⟨(h.att j dg).1,b j dg⟩
 .by_cases e:j=L.length;.subst e;simp[Value.ownBlock]
  .rw[if_neg e];by_cases f:i=L.length;.grind
   .rw[if_neg f];exact h.sepK i j dg dg
 .have t:(if i=L.length then ab else AV i)<W.heap.size:=by
   by_cases e:i=L.length;.rw[if_pos e];exact g.1
   .rw[if_neg e];exact(h.att i dg).2.1
  rcases m with e|e
  .rw[e];by_cases f:i=L.length;.grind
   .rw[if_neg f];exact h.sepN i dg
  grind
def RD.setText{g c k}(h:RD W B (Sq g L.length c) L AV KV)(l:k<L.length)x:
 RD (W.setCell (aq g (k*5+2)) (.string ⟨x.toArray⟩)) B (Sq g L.length c) (ao L k x) AV KV:=by
 have d:(ao L k x).length=L.length:=by unfold ao;simp
 have f:∀j,j<L.length->AV j≠g:=λj b e=>h.sepN j b (by rw[e];rfl);have a:∀j,(ae (ao L k x) j).attr=(ae L j).attr/\(ae (ao L k x) j).kids=(ae L j).kids:=λj=>by grind[ao,aL,aD]
 refine⟨?_,λj b=>?_,λj b=>?_,λi j hi b=>h.sepK i j dg dg,λi hi=>h.sepN i dg⟩
 .rw[d];refine(h.nr.set (by decide) l dg (.string ⟨x.toArray⟩)).congr (λj b=>?_) (λj b=>rfl) (λj b=>(a j).2);by_cases e:j=k;.subst e;rw[if_pos rfl];unfold ao;rw[aL _ l];rfl
  grind[ao,aD]
 .rw[(a j).1];exact h.len j dg
 .rw[(a j).1];exact⟨(h.att j dg).1,(h.att j dg).2.other (f j dg) _⟩
def RD.kid{g cap}{kv'}{k c}(h:RD W B (Sq g L.length cap) L AV KV)(f:k<L.length)(r:W'.ownsRow B 3 1 kv' ((ae L k).kids.length+1) (gU ((ae L k).kids++[c])))(l:W.grownBy W' (KV k).ownBlock)(d:kv'.ownBlock=(KV k).ownBlock\/kv'.ownBlock=some W.heap.size):
 RD (W'.setCell (aq g (k*5+3)) kv') B (Sq g L.length cap) (L.modify k λu=>{u with kids:=u.kids++[c]}) AV (λj=>if j=k then kv' else KV j):=by
 have m:(L.modify k λu=>{u with kids:=u.kids++[c]}).length=L.length:=At;have n:∀j,j<L.length->AV j≠g:=λj b e=>h.sepN j b (by rw[e];rfl);have p:∀j,(ae (L.modify k λu=>{u with kids:=u.kids++[c]}) j).attr=(ae L j).attr:=λj=>by grind[aL,aD]
 refine⟨?_,λj b=>?_,λj b=>?_,λi j hi b=>?_,λi hi=>h.sepN i dg⟩
 .rw[m];refine(h.nr.kid (t:=3) (by decide) f dg r l d).congr (λj b=>?_) (λj b=>rfl) (λj b=>?_)
  .by_cases e:j=k;.subst e;simp only[if_true];rw[aL _ f];rfl
   grind[aD]
  grind[aL,aD]
 .rw[p j];exact h.len j dg
 .rw[p j];exact⟨(h.att j dg).1,((h.att j dg).2.keep l.size (l.block _ (h.att j dg).2.1 (λe=>h.sepK j k dg f e.symm))).other (n j dg) _⟩
 .by_cases e:j=k
  .rw[if_pos e];rcases d with q|q;.rw[q];exact h.sepK i k dg f
   .rw[q];intro o;injection o with o;have:=(h.att i dg).2.1;omega
  .rw[if_neg e];exact h.sepK i j dg dg
end
