import Derived.Test.YtiaimhjebnobnaaGreatDoorQ19
import Derived.Deep.CutRange
import Derived.Laws.EntriesVeiled
set_option linter.all false
set_option maxRecDepth 100000
set_option maxHeartbeats 16000000
namespace Go.Proofs.YtiaimhjebnobnaaGreatDoor
open Go.RowKit Go.Proofs.Tryz
theorem jR{P}{vL}{o}{a}{w}{K}{Q}{E}
 (hg:o.guard=none)  s x   t  (hop:o.op=Op.call {callee:=Callee.builtin Builtin.append,args:=#[s,x],argTypes:=#[t,t]})
  base   e   i   z   size bytes  (h1:P.underlying t=some (.slice e)) (h2:P.info? e=some i) (h3:i.zero=some z) (h4:i.size=size) (h5:i.bytes=bytes) (h6:z.cells.size=size) (h7:0<size)
  v   n   G6  (hs:a.eval s=v) (bu:w.ownsRow base e size v n G6)
  ad   m c   jg  (hx:a.eval x=.slice (some ad) m c) (hn:jg.length=m*size) (hc:∀j u,jg[j]?=some u->w.cell? (ad.add j)=some u) (YG:∀u∈jg,u.oneCell'=true)
 (b1:n+m<=maxLen) (b2:(n+m)*bytes<=140737488355328) (b3:base<=w.heap.size)
 (hK:∀v' w',w'.ownsRow base e size v' (n+m) (G6++jg)->w.grownBy w' v.ownBlock->(v'.ownBlock=v.ownBlock\/v'.ownBlock=some w.heap.size)->K (a.put o.dst v') w'):
 if Region.wanted o (yielded vL a.tmps)=true then Oper.wp P o a w K Q else E:=by
 have hw:Region.wanted o (yielded vL a.tmps)=true:=by simp[Region.wanted,hg]
 rw[if_pos hw];obtain⟨v',w',Li,r1,r2,_,r3⟩:=run_append_own_at (P:=P) w base t o.type e i z size bytes h1 h2 h3 h4 h5 h6 h7 v n G6 bu ad m c jg hn hc YG b1 b2 b3;unfold Oper.wp;simp[execOp,hop,resolve,invoke,builtin,hs,hx,Li,Result.andThen];exact hK v' w' r1 r2 r3
theorem PB:(prog.info? 63).map (fun i=>(i.zero,i.size,i.bytes))=some (some (.agg #[Iq 0,Iq 0,Iq 0,Iq 0,Iq 0,Iq 0,Iq 0,Iq 0,Iq 0,Iq 0,Iq 0,Iq 0,Iq 0,.string ⟨#[]⟩,.slice none 0 0,Iq 0]),16,152):=by kernel_rfl
theorem dQ{W:World}{B n size}{e}{v}{xs}(h:W.ownsRow B e size v n xs):∃p c,v=.slice p n c:=by grind[dK]
theorem kM(w:World)  cs   T   xs  (h:cs.toList=xs):∀j u,xs[j]?=some u->(w.alloc (.cells cs T)).cell? (((az w.heap.size 0):Addr).add j)=some u:=by
 intro j u hu;have e:((az w.heap.size 0):Addr).add j=(az w.heap.size (0+j)):=by unfold Addr.add;split<;>simp_all
 rw[e,bM,World.cell?_alloc_at _ _ _ _ rfl,<-hu,<-h];simp
theorem ZZ  d   p   n c  :∀u∈b_ d (.slice p n c),u.oneCell'=true:=by intro u hu;unfold b_ at hu;simp at hu;rcases hu with rfl|⟨x,_,rfl⟩|rfl|rfl|rfl<;>rfl
theorem PR.far{W W1}{o}{rb B}{s}{i}{av nv fv}(h:PR W rb s i av nv fv)(hg:W.grownBy W1 o)(ho:∀g,o=some g->B<=g)(hr:rb<B):PR W1 rb s i av nv fv:=by have hb:=hg.block rb h.lt (fun e=>by grind);have k:∀j,W1.cell? (az rb j)=W.cell? (az rb j):=fun j=>bU hb;exact⟨zz008 h.lt hg.size,(k 0).trans h.c0,(k 1).trans h.c1,(k 2).trans h.c2,(k 3).trans h.c3,(k 4).trans h.c4,fun j=>(qN hb).trans (h.fz j)⟩
theorem PR.setN{W}{rb}{s}{i}{av nv fv}(h:PR W rb s i av nv fv)  LH  :PR (W.setCell (az rb 3) LH) rb s i av LH fv:=
 ⟨by simpa using h.lt,aL (by omega) h.c0,aL (by omega) h.c1,aL (by omega) h.c2,iQ h.c3,aL (by omega) h.c4,fun j=>by rw[ij];exact h.fz j⟩
theorem Up.set{B b o}  W  (hb:b<B)  v  :Up B W (W.setCell (az b o) v):=⟨by simp,fun k h1 h2=>cF W (az b o) v k (by grind)⟩
theorem Fr.set{B r o}  W   v  :Fr B r W (W.setCell (az r o) v):=⟨rfl,rfl,rfl,by simp,fun k h1 h2=>cF W (az r o) v k h2⟩
theorem EP:(prog.info? 3).map (fun i=>(i.zero,i.size,i.bytes))=some (some (Iq 0),1,8):=by kernel_rfl
def oL(w w':World)(rb B:Nat)(s:ByteArray)(i:Nat)(av fv:Value)(L:List Nd):Prop:=∃nv KV,PR w' rb s i av nv fv/\PN w' B nv L KV/\Fr B rb w w'/\B<=w'.heap.size
theorem dS{B}{w w'}(h:Below B w w')  q  :Below B w (w'.drewN q):=⟨h.os,h.tape,h.output,h.size,h.block⟩
theorem gI{B b o}{w w'}(h:Below B w w')(hb:B<=b)  v  :Below B w (w'.setCell (az b o) v):=
 ⟨h.os,h.tape,h.output,by simpa using h.size,fun k hk=>(cF w' (az b o) v k (by grind)).trans (h.block k hk)⟩
theorem Tw{w wc w3}{rb B g n1 c' j c:Nat}{s}{i}{av fv v'}{L1}{Tr}{pk}{ck}{ks}
 (hp:PR w3 rb s i av (Sq g n1 c') fv) (hn:PN wc B (Sq g n1 c') L1 Tr) (hl:L1.length=n1) (hf:Fr B rb w wc) (hB:B<=wc.heap.size) (hrb:rb<B) (T7:B<=g) (hj:j<n1)
 (hk:Tr j=.slice pk ks.length ck) (hks:(ae L1 j).kids=ks)  o  (ho:w3.ownsRow B 3 1 v' (ks.length+1) (kX ks++[Iq (c:Int)])) (hg:((wc.alloc o).drew).grownBy w3 (Value.slice pk ks.length ck).ownBlock)
 (b9:v'.ownBlock=(Value.slice pk ks.length ck).ownBlock\/v'.ownBlock=some ((wc.alloc o).drew).heap.size):
 oL w (w3.setCell (az g (j*16+14)) v') rb B s i av fv (L1.modify j fun u=>{u with kids:=u.kids++[c]}):=by subst hl;have hkr:=hn.nr.kids j hj;rw[hk]at hkr;have kH:Bt wc (wc.alloc o).drew:=dS ((aj wc.heap.size wc).alloc (ai _) o) 1;have HN4:=hn.up (Up.below (B:=B) kH);have HN5:=HN4.kid (k:=j) (c:=c) (W':=w3) (kv':=v') hj (by grind[kX]) (by grind) (by grind);have HF3:Fr B rb wc w3:=(Fr.below kH hB).trans (Fr.own hg (aO hB kH.size) (fun g e=>(hkr.lt g e).1));have HF4:Fr B rb w3 (w3.setCell (az g (j*16+14)) v'):=Fr.own (ct w3 g _ _) (aO hB HF3.size) (fun q e=>by grind);exact⟨_,_,PR.far hp (ct w3 g _ _) (fun q e=>by grind) hrb,HN5,hf.trans (HF3.trans HF4),by have:=HF3.size;have:=HF4.size;omega⟩
def M7(w w':World)(rb B:Nat)(s:ByteArray)(i:Nat)(av fv:Value)(L:List Nd)(KV:Nat->Value):Prop:=∃p c,PR w' rb s i av (.slice p L.length c) fv/\PN w' B (.slice p L.length c) L (fun j=>if j=L.length-1 then .slice none 0 0 else KV j)/\Fr B rb w w'/\B<=w'.heap.size
def Ca(kind:Nat)(up:Int)(k t:Nat):Value:=if t=0 then Iq (kind:Int)else if t<=k then Iq (pw (t-1))else if t<=12 then Iq 0 else if t=13 then .string ⟨#[]⟩else if t=14 then .slice none 0 0 else Iq up
theorem NK{kind}{up}{k}(hk:k<12):Ca kind up (k+1) (k+1)=Iq (pw k):=by grind[Ca]
theorem NL{kind}{up}{k t}(h:t≠k+1):Ca kind up (k+1) t=Ca kind up k t:=by grind[Ca]
theorem FP{kind:Nat}{up}{w:World}{T}  t  (ht:t<16):(w.alloc (.cells #[Iq (kind:Int),Iq 0,Iq 0,Iq 0,Iq 0,Iq 0,Iq 0,Iq 0,Iq 0,Iq 0,Iq 0,Iq 0,Iq 0,.string ⟨#[]⟩,.slice none 0 0,Iq up] T)).cell? (az w.heap.size t)=some (Ca kind up 0 t):=by
 rw[World.cell?_alloc_at _ _ _ _ rfl];have:t=0\/t=1\/t=2\/t=3\/t=4\/t=5\/t=6\/t=7\/t=8\/t=9\/t=10\/t=11\/t=12\/t=13\/t=14\/t=15:=by omega
 rcases this with rfl|rfl|rfl|rfl|rfl|rfl|rfl|rfl|rfl|rfl|rfl|rfl|rfl|rfl|rfl|rfl<;>rfl
theorem Cc(rb ab B:Nat)(s:ByteArray)(i:Nat)(nv fv:Value)(L:List Nd)(KV:Nat->Value)(kind:Nat)(up:Int)(w:World)(h:PR w rb s i (Sq ab 12 12) nv fv)(hn:PN w B nv L KV)(ht:NJ w ab)(hrb:rb<B)(hab:ab<B)(bZ:ab≠rb)(hB:B<=w.heap.size)(hL:L.length<=100000)(hup:up=-1\/(0<=up/\up<L.length))(dj:∀j ks,j<L.length->(ae L j).kids=ks->ks.length<=100000000):
 Cw 136 #[Pq rb,Iq (kind:Int),Iq up] w fun e w'=>e=Rw (Iq (L.length:Int))/\oL w w' rb B s i (Sq ab 12 12) fv (grown L ⟨kind,aX,[],[],up⟩):=by
 obtain⟨pn,cn,rfl⟩:∃p c,nv=.slice p L.length c:=dQ hn.nr.row.choose_spec;have HR:=qH<|h;have HN:=qH<|hn;have HT:=qH<|ht;have c2:=h.c2;have tG:=h.lt;have tC:=ht.lt;obtain⟨i0,hi,eG,fs,gd⟩:=info_parts PB;clear h hn ht;go_enter func136,ntmps136;go_wp2;go_loopw[19] (fun v wr=>∃k:Nat,v=Iq (k:Int)/\k<=12/\w.heap.size<wr.heap.size/\Hid (Bt w wr)/\Hid (∀t,t<16->wr.cell? (az w.heap.size t)=some (Ca kind up k t)/\wr.frozen? (az w.heap.size t)=false)) (fun v _=>12-(intOf v).toNat);case atStart=>exact⟨0,rfl,by omega,by simp,(aj _ _).alloc (ai _) _,fun t ht=>⟨FP t ht,frozen_of_row _ _ _ _ _ (heap_alloc_new _ _)⟩⟩
 case round=>
  obtain⟨k,rfl,hk,f_,HB,HC⟩:=hrel;by_cases hlt:k<12
  ·have aN:(k:Int)<12:=by omega
   have hT:=HT.fr (Fr.below (r:=rb) HB (ai _)) tC bZ;obtain⟨t0,t1,t2,t3,t4,t5⟩:=hT.at hlt;have hT2:=hT.lt;obtain⟨d1,f1⟩:=HC (k+1) (by omega);have HQ:=qH<|in_at k hlt;obtain⟨g,hg⟩:=ag (zZ k);obtain⟨a0,h0⟩:=ag (jq k);obtain⟨a1,h1⟩:=ag (pZ k);obtain⟨a2,h2⟩:=ag (o6 k);obtain⟨a3,h3⟩:=ag (pw k);obtain⟨a4,h4⟩:=ag (tN k);rw[h0]at t0;rw[h1]at t1;rw[h2]at t2;rw[h3]at t3;rw[h4]at t4;rw[hg]at t5 HQ;have H3:=qH<|h3;obtain⟨x1,sC⟩:=ag (Ca kind up k (k+1));rw[sC]at d1;have eg:=HQ.1;clear h0 h1 h2 h3 h4 hg hT sC;go_wp2_with fail;go_region_with(go_at_fn g;refine(HQ.2 _ _ _).mono ?_;rintro e w2 ⟨rfl,rfl⟩);all_goals
    go_wp2;go_roundw;case rel=>
     refine⟨k+1,by go_num,by omega,by simp;omega,?_,fun t ht=>?_⟩;·exact dS (Below.alloc (gI HB (ai _) _) (by simp;omega) _) 1
     ·have hb:∀(o:Obj) (u:Value),(((wr.setCell (az w.heap.size (k+1)) u).alloc o).drew).heap[w.heap.size]?=(wr.setCell (az w.heap.size (k+1)) u).heap[w.heap.size]?:=fun o u=>by show((wr.setCell (az w.heap.size (k+1)) u).alloc o).heap[w.heap.size]?=_;exact heap_alloc_old _ _ (by simp;omega)
      refine⟨?_,?_⟩
      ·rw[bU (hb _ _)];by_cases e:t=k+1;·subst e;rw[iQ (HC (k+1) ht).1,NK hlt,H3.out]
       ·rw[aL e (HC t ht).1,NL e]
      ·rw[qN (hb _ _),ij];exact(HC t ht).2
    case measure=>simp[intOf];omega
  ·obtain rfl:k=12:=by omega
   have n0:wr.cell? (az w.heap.size 0)=some (Iq (kind:Int)):=(HC 0 (by omega)).1;have n1:wr.cell? (az w.heap.size 1)=some (Iq 0):=(HC 1 (by omega)).1;have n2:wr.cell? (az w.heap.size 2)=some (Iq 0):=(HC 2 (by omega)).1;have n3:wr.cell? (az w.heap.size 3)=some (Iq (-1)):=(HC 3 (by omega)).1;have n4:wr.cell? (az w.heap.size 4)=some (Iq 1):=(HC 4 (by omega)).1;have n5:wr.cell? (az w.heap.size 5)=some (Iq 0):=(HC 5 (by omega)).1;have n6:wr.cell? (az w.heap.size 6)=some (Iq 0):=(HC 6 (by omega)).1;have n7:wr.cell? (az w.heap.size 7)=some (Iq 1):=(HC 7 (by omega)).1;have n8:wr.cell? (az w.heap.size 8)=some (Iq 0):=(HC 8 (by omega)).1;have n9:wr.cell? (az w.heap.size 9)=some (Iq 1):=(HC 9 (by omega)).1;have ZJ:wr.cell? (az w.heap.size 10)=some (Iq 0):=(HC 10 (by omega)).1;have ZK:wr.cell? (az w.heap.size 11)=some (Iq 0):=(HC 11 (by omega)).1;have ZL:wr.cell? (az w.heap.size 12)=some (Iq 0):=(HC 12 (by omega)).1;have Vd:wr.cell? (az w.heap.size 13)=some (.string ⟨#[]⟩):=(HC 13 (by omega)).1;have ZN:wr.cell? (az w.heap.size 14)=some (.slice none 0 0):=(HC 14 (by omega)).1;have ZO:wr.cell? (az w.heap.size 15)=some (Iq up):=(HC 15 (by omega)).1;have HR1:=qH<|HR.belowB HB tG;have HN1:=qH<|HN.up (Up.below HB);have r3:=HR1.c3;have zc4:=HR1.lt;have hrn:rb≠wr.heap.size:=by omega
   obtain⟨xs,hxs⟩:=HN1.nr.row;have HX:=qH<|hxs;clear hxs c2;go_wp2_with fail;go_cut[10]from 35 to 44 (fun v wx=>v=Iq (L.length:Int)/\Hid (M7 w wx rb B s i (Sq ab 12 12) fv (L++[⟨kind,aX,[],[],up⟩]) KV));case first=>
    go_region_law(refine jR rfl (.tmp 39) (.tmp 41) 49 rfl B 63 i0 _ 16 152 underlying49 hi eG fs gd rfl (by decide) (.slice pn L.length cn) L.length xs (by simp[Act.eval]) (td (w:=wr.drew) HX _) _ 1 1 (b_ ⟨kind,aX,[],[],up⟩ (.slice none 0 0)) (by simp[Act.eval]) rfl (kM _ _ _ _ rfl) (ZZ _ _ _ _) (by unfold maxLen;omega) (by omega) (by simp;omega) ?_;intro v' w1 bD hg b9;obtain⟨p',c',hv'⟩:=dQ bD;subst hv';have xr:=qH<|PR.far ((HR1.drewN 1).below ((aj _ _).alloc (ai _) _)) hg (fun g e=>(HX.lt g e).1) hrb;have k3:=xr.c3;have kf:=xr.fz 3);all_goals
     have hzr:=HB.size;have HN2:=qH<|PN.app (HN1.up (Up.below (dS ((aj _ _).alloc (by simp) _) 1))) (td (w:=wr.drew) HX _) bD hg rfl rfl;have HF1:Hid (Fr B rb w w1):=(Fr.below HB hB).trans ((Fr.below (dS ((aj wr.heap.size wr).alloc (by simp) _) 1) (by omega)).trans (Fr.own hg (by simp;omega) (fun g e=>(HX.lt g e).1)));obtain⟨w2,vt⟩:=ag (w1.setCell (az rb 3) (.slice p' (L.length+1) c'));have xt:Hid (PR w2 rb s i (Sq ab 12 12) (.slice p' (L.length+1) c') fv):=by rw[<-vt];exact xr.setN _
     have HN3:Hid (PN w2 B (.slice p' (L.length+1) c') (L++[⟨kind,aX,[],[],up⟩]) (fun j=>if j=L.length then .slice none 0 0 else KV j)):=by rw[<-vt];exact HN2.up (Up.set _ hrb _)
     have HF2:Hid (Fr B rb w w2):=by rw[<-vt];exact HF1.trans (Fr.set _ _)
     have oy:B<=w2.heap.size:=by have:=HF2.size;omega
     rw[vt];clear hg bD b9 k3 kf xr HN2 HF1 HX HN1 HR1 r3 zc4 hrn n0 n1 n2 n3 n4 n5 n6 n7 n8 n9 ZJ ZK ZL Vd ZN ZO HC HB;have HM:Hid (M7 w w2 rb B s i (Sq ab 12 12) fv (L++[⟨kind,aX,[],[],up⟩]) KV):=⟨p',c',by simpa using xt.out,by simpa using HN3.out,HF2,oy⟩;go_wp2;go_meet;grind
   case rest=>
    obtain⟨rfl,HM⟩:=hcut;clear n0 n1 n2 n3 n4 n5 n6 n7 n8 n9 ZJ ZK ZL Vd ZN ZO HX HN1 HR1 r3 zc4 hrn HC HB HR HN HT;obtain⟨L1,qQ⟩:=ag (L++[(⟨kind,aX,[],[],up⟩:Nd)]);rw[qQ]at HM;have hl1:L1.length=L.length+1:=by rw[<-qQ];simp
    obtain⟨p',c',hp2,hn3,hf2,oy⟩:=HM.out;rw[hl1]at hp2 hn3;have xt:=qH<|hp2;have HF2:=qH<|hf2;rcases hup with rfl|⟨hu0,Gw⟩
    ·have HO:Hid (oL w wc rb B s i (Sq ab 12 12) fv (grown L ⟨kind,aX,[],[],-1⟩)):=by
      have fY:grown L ⟨kind,aX,[],[],-1⟩=L1:=by unfold grown;rw[if_pos (by grind)];exact qQ
      rw[fY];exact⟨_,_,hp2,hn3,hf2,oy⟩
     clear hn3 hp2 hf2 HM;go_wp2;go_ret;exact⟨rfl,HO⟩
    ·obtain⟨j,rfl⟩:∃j:Nat,up=(j:Int):=⟨up.toNat,by omega⟩;have hj:j<L.length:=by omega
     have XQ:Hid (grown L ⟨kind,aX,[],[],(j:Int)⟩=L1.modify j fun u=>{u with kids:=u.kids++[L.length]}):=by show _=_;rw[<-qQ];exact kR L _ j rfl hj
     have K9:(ae L1 j).kids.length<=100000000:=by rw[<-qQ,cV hj];exact dj j _ hj rfl
     obtain⟨Tr,OM⟩:=ag (fun(q:Nat)=>if q=L.length+1-1 then Value.slice none 0 0 else KV q);rw[OM]at hn3;clear OM qQ HM;obtain⟨g,cap,hv,T7,kV,_,_⟩:=hn3.nr.form (by omega);simp only[hl1,Fb,true_and]at hv;obtain⟨rfl,rfl⟩:=hv;have SG:j<L1.length:=by omega
     have hkr:=hn3.nr.kids j SG;have bY:=hn3.len j SG;obtain⟨pk,ck,hk⟩:=dQ hkr;obtain⟨ks,hks⟩:=ag ((ae L1 j).kids);rw[hk,hks]at hkr;rw[hks]at hk K9;have _r:=qH<|hkr;have e14:wc.cell? (az g (j*16+14))=some (.slice pk ks.length ck):=by rw[<-hk];exact hn3.nr.cells g rfl j SG 14 (Tr j) (Vk bY)
     have XS:Hid (some g≠(Value.slice pk ks.length ck).ownBlock):=by
      obtain⟨ys,hys⟩:=hn3.nr.row;rcases gm (v':=Sq g (L.length+1) c') hkr hys (by decide)with e|e;·grind
      ·exact fun e2=>e e2.symm
     have fY:g≠rb:=by omega
     have f14:wc.frozen? (az g (j*16+14))=false:=hn3.nr.frz rfl (j*16+14);have d3:=hp2.c3;have Uu:(j:Int)<((L.length+1:Nat):Int):=by omega
     have IZ:(j:Int)<(L.length:Int)+1:=by omega
     have ejn:((j:Int)!=-1)=true:=by rw[bne_iff_ne];omega
     have ziJ:=hp2.lt;have HN3:=qH<|hn3;have JV:=qH<|hk;have HKS:=qH<|hks;have Ta:=qH<|hl1;obtain⟨i1,BE,Zt,hy1,SQ⟩:=info_parts EP;clear hkr hn3 hk hks hp2 hf2 bY hl1;go_wp2_with fail;go_cut[10]from 47 to 64 (fun v wx=>v=Iq (L.length:Int)/\Hid (oL w wx rb B s i (Sq ab 12 12) fv (grown L ⟨kind,aX,[],[],(j:Int)⟩)));case first=>
      go_region_law(refine jR rfl (.tmp 59) (.tmp 61) 61 rfl B 3 i1 (Iq 0) 1 8 underlying61 BE Zt hy1 SQ rfl (by decide) (.slice pk ks.length ck) ks.length (kX ks) (by simp[Act.eval]) (td (w:=wc.drew) _r _) _ 1 1 [Iq (L.length:Int)] (by simp[Act.eval]) rfl (kM _ _ _ _ rfl) (by intro u hu;simp at hu;subst hu;rfl) (by unfold maxLen;omega) (by omega) (by simp;omega) ?_;intro v' w3 bD hg b9;obtain⟨p'',c'',hv'⟩:=dQ bD;subst hv';have jm:=qH<|PR.far ((xt.drewN 1).below ((aj _ _).alloc (ai _) _)) hg (fun g e=>(_r.lt g e).1) hrb;have k3:=jm.c3;have nC:=(hg.block g (zz008 kV (by simp)) XS).trans (heap_alloc_old _ _ kV);have k14:=(bU nC).trans e14;have Zz:=(qN nC).trans f14);all_goals
       have HO:Hid (oL w (w3.setCell (az g (j*16+14)) (.slice p'' (ks.length+1) c'')) rb B s i (Sq ab 12 12) fv (grown L ⟨kind,aX,[],[],(j:Int)⟩)):=by rw[XQ.out];exact Tw jm HN3 Ta HF2 oy hrb T7 (by omega) JV HKS _ bD hg b9
       clear jm hg b9 bD k3 nC k14 Zz;go_wp2_with fail;go_meet;exact⟨rfl,HO⟩
     case rest=>obtain⟨rfl,HO⟩:=hcut;clear _r e14 f14 d3 HN3;go_wp2;go_ret;exact⟨rfl,HO⟩
def ib(L:List Nd)(k:Nat)(n:Int):Bool:=L.any fun d=>d.attr[k]?.getD 0==n
theorem Ge  L   n  :ib L 0 n=fI L n:=rfl
theorem any_take_succ  L   k j   n  (hj:j<L.length) (h:ib (L.take j) k n=false) (hn:((ae L j).attr[k]?.getD 0==n)=false):ib (L.take (j+1)) k n=false:=by unfold ib at*;rw[List.take_add_one,Rt,h];grind[ae]
theorem any_at  L   k j   n  (hj:j<L.length) (hn:((ae L j).attr[k]?.getD 0==n)=true):ib L k n=true:=by grind[ib,ae]
def wa(k:Nat):Value:=.agg #[.string (jq k),.int .u64 (pZ k:Int),Iq (o6 k),Iq (pw k),.bool (tN k),.func (.func (zZ k)) #[] #[]]
theorem tP(rb B:Nat)(s:ByteArray)(i:Nat)(av nv fv:Value)(L:List Nd)(KV:Nat->Value)(k:Nat)(hk:k<12)(n:Int)(w:World)(h:PR w rb s i av nv fv)(hn:PN w B nv L KV)(hL:L.length<=100000):
 Cw 233 #[Pq rb,wa k,Iq n] w fun e w'=>e=Rw (.bool (ib L k n))/\Bt w w':=by
 obtain⟨pn,cn,rfl⟩:∃p c,nv=.slice p L.length c:=dQ hn.nr.row.choose_spec;have HQ:=qH<|in_at k hk;unfold wa;obtain⟨g,hg⟩:=ag (zZ k);obtain⟨a0,h0⟩:=ag (jq k);obtain⟨a1,h1⟩:=ag (pZ k);obtain⟨a2,h2⟩:=ag (o6 k);obtain⟨a3,h3⟩:=ag (pw k);obtain⟨a4,h4⟩:=ag (tN k);rw[hg,h0,h1,h2,h3,h4];rw[hg]at HQ;have eg:=HQ.1;clear h0 h1 h2 h3 h4 hg;have HR:=qH<|h;have HN:=qH<|hn;have c3:=h.c3;have tG:=h.lt;clear h hn;go_enter func233,ntmps233;go_wp2;obtain⟨W1,cC⟩:=ag (w.alloc (.cells #[.string a0,.int .u64 (a1:Int),Iq a2,Iq a3,.bool a4,.func (.func g) #[] #[]] 203));have B1:Hid (Bt w W1):=by rw[<-cC];exact(aj _ _).alloc (ai _) _
 have HR1:Hid (PR W1 rb s i av (.slice pn L.length cn) fv):=by rw[<-cC];exact HR.below ((aj _ _).alloc (ai _) _)
 have HN1:=qH<|HN.up (Up.below B1);have d5:W1.cell? (az w.heap.size 5)=some (.func (.func g) #[] #[]):=by rw[<-cC,World.cell?_alloc_at _ _ _ _ rfl];rfl
 have d3:=HR1.c3;rw[cC];clear cC c3 tG HR HN;go_loopw[13] (fun v wr=>∃j:Nat,v=Iq (j:Int)/\j<=L.length/\Hid (ib (L.take j) k n=false)/\Hid (∃q,wr=W1.drewN q)) (fun v _=>L.length-(intOf v).toNat);case atStart=>exact⟨0,rfl,aZ _,by show ib (L.take 0) k n=false;simp[ib],0,rfl⟩
 case round=>
  obtain⟨j,rfl,hj,HF,HW⟩:=hrel;have B2:Hid (Bt w wr):=by obtain⟨q,rfl⟩:=HW.out;exact dS B1 _
  have d5':wr.cell? (az w.heap.size 5)=some (.func (.func g) #[] #[]):=by obtain⟨q,rfl⟩:=HW.out;exact d5
  have d3':wr.cell? (az rb 3)=some (.slice pn L.length cn):=by obtain⟨q,rfl⟩:=HW.out;exact d3
  by_cases hlt:j<L.length
  ·have aN:(j:Int)<(L.length:Int):=by omega
   obtain⟨bl,cap,hv,T7,kV,_,_⟩:=HN1.nr.form (by omega);simp only[Fb,true_and]at hv;obtain⟨rfl,rfl⟩:=hv;have ce0:=HN1.nr.cells bl rfl j hlt (k+1) _ (Jn (by rw[HN1.len j hlt];exact hk));have ce:wr.cell? (az bl (j*16+(k+1)))=some (Iq ((ae L j).attr[k]?.getD 0)):=by obtain⟨q,rfl⟩:=HW.out;exact ce0
   clear ce0;obtain⟨x,hx⟩:=ag ((ae L j).attr[k]?.getD 0);have HX:=qH<|hx;rw[hx]at ce;clear hx;have ce2:wr.cell? (az bl (j*16+k+1))=some (Iq x):=ce;by_cases hxn:x=n
   ·have e1:(x==n)=true:=by simpa using hxn
    have HT:=qH<|any_at L k j n hlt (by rw[HX.out];exact e1);go_wp2_with fail;go_quiet(first|(go_at_fn g;exact Calls.quiet_of_same (HQ.2 _ _ _)));go_wp2;go_ret;exact⟨by rw[HT.out];rfl,dS B2 _⟩
   ·have e1:(x==n)=false:=by simpa using hxn
    have HF2:=qH<|any_take_succ L k j n hlt HF (by rw[HX.out];exact e1);go_wp2_with fail;go_quiet(first|(go_at_fn g;exact Calls.quiet_of_same (HQ.2 _ _ _)));go_wp2;go_roundw;case rel=>exact⟨j+1,by go_num,by omega,HF2,by obtain⟨q,rfl⟩:=HW.out;exact⟨q+nq,by simp_all⟩⟩
    case measure=>simp[intOf];omega
  ·have aN:¬(j:Int)<(L.length:Int):=by omega
   obtain rfl:j=L.length:=by omega
   have HT:Hid (ib L k n=false):=by have:=HF.out;rw[l5]at this;exact this
   go_wp2;go_ret;exact⟨by rw[HT.out];rfl,B2⟩
def xV(L:List Nd)(k:Nat)(n:Int):Bool:=tN k&&(n !=pw k)&&ib L k n
def Hv(L:List Nd)(k:Nat)(n:Int)(rg tw:Addr):Value:=if o6 k<n then bH rg else if xV L k n=true then bH tw else .nilIface
def setL(L:List Nd)(j k:Nat)(n:Int):List Nd:=if o6 k<n\/xV L k n=true then L else L.modify j fun d=>{d with attr:=d.attr.set k n}
def zG(w w':World)(e:Ending)(rb B:Nat)(s:ByteArray)(i:Nat)(av nv fv:Value)(L:List Nd)(KV:Nat->Value)(j k:Nat)(n:Int)(rg tw:Addr)(bl:Nat):Prop:=
 w.grownBy w' (some bl)/\e=Rw (Hv L k n rg tw)/\PR w' rb s i av nv fv/\PN w' B nv (setL L j k n) KV/\Fr B rb w w'/\B<=w'.heap.size
theorem VB(rb B:Nat)(s:ByteArray)(i:Nat)(av fv:Value)(L:List Nd)(KV:Nat->Value)(bl cap j k:Nat)(hk:k<12)(n:Int)(rg tw:Addr)(w:World)(h:PR w rb s i av (Sq bl L.length cap) fv)(hn:PN w B (Sq bl L.length cap) L KV)(hL:L.length<=100000)(hj:j<L.length)(hrb:rb<B)(hB:B<=w.heap.size)
 (hg3:3<B) (Uq:4<B) (hn3:3≠rb) (hn4:4≠rb)
 (er:w.cell? (az 4 0)=some (bH rg)) (et:w.cell? (az 3 0)=some (bH tw)):
 Cw 210 #[Pq rb,.pointer (some (az bl (j*16))),wa k,Iq n] w fun e w'=>zG w w' e rb B s i av (Sq bl L.length cap) fv L KV j k n rg tw bl:=by
 have HQ:=qH<|in_at k hk;have HS:Hid (∀W,PR W rb s i av (Sq bl L.length cap) fv->PN W B (Sq bl L.length cap) L KV->Cw 233 #[Pq rb,wa k,Iq n] W fun e w'=>e=Rw (.bool (ib L k n))/\Bt W w'):=fun W h1 h2=>tP rb B s i av _ fv L KV k hk n W h1 h2 hL;unfold wa at HS⊢;have HD:Hid (Hv L k n rg tw=if o6 k<n then bH rg else if(tN k&&(n !=pw k)&&ib L k n)=true then bH tw else .nilIface):=rfl;have HL:Hid (setL L j k n=if o6 k<n\/(tN k&&(n !=pw k)&&ib L k n)=true then L else L.modify j fun d=>{d with attr:=d.attr.set k n}):=rfl;obtain⟨g,hg⟩:=ag (zZ k);obtain⟨a0,h0⟩:=ag (jq k);obtain⟨a1,h1⟩:=ag (pZ k);obtain⟨a2,h2⟩:=ag (o6 k);obtain⟨a3,h3⟩:=ag (pw k);obtain⟨a4,h4⟩:=ag (tN k);obtain⟨hh,h5⟩:=ag (ib L k n);rw[hg,h0,h1,h2,h3,h4]at HS⊢;rw[h5]at HS;rw[h2,h3,h4,h5]at HD HL;rw[hg]at HQ;have eg:=HQ.1;clear h0 h1 h2 h3 h4 h5 hg;have HR:=qH<|h;have HN:=qH<|hn;have YH:=(hn.nr.row.choose_spec.lt bl rfl).1;clear h hn;have er':w.cell? (az 4 0)=some (.iface 362 (.pointer (some rg))):=er;have et':w.cell? (az 3 0)=some (.iface 362 (.pointer (some tw))):=et;have ER:=qH<|er';have ET:=qH<|et';clear er et er' et';obtain⟨bx,jd⟩:∃z:Obj,(.cells #[.string a0,.int .u64 (a1:Int),Iq a2,Iq a3,.bool a4,.func (.func g) #[] #[]] 203)=z:=⟨_,rfl⟩;have BA:Hid (Bt w (w.alloc (.cells #[.string a0,.int .u64 (a1:Int),Iq a2,Iq a3,.bool a4,.func (.func g) #[] #[]] 203))):=(aj _ _).alloc (ai _) _;clear jd bx;have hbl:=(HN.nr.row.choose_spec.lt bl rfl).2;have Fx:3<w.heap.size:=by omega
 have hl4:4<w.heap.size:=by omega
 have Pa:rb<w.heap.size:=by omega
 have ce:=HN.nr.cells bl rfl j hj (k+1) _ (Jn (by rw[HN.len j hj];exact hk));obtain⟨x0,BM⟩:=ag ((ae L j).attr[k]?.getD 0);rw[BM]at ce;have ce2:w.cell? (az bl (j*16+k+1))=some (Iq x0):=ce;have cf:w.frozen? (az bl (j*16+(k+1)))=false:=HN.nr.frz rfl _;have cf2:w.frozen? (az bl (j*16+k+1))=false:=HN.nr.frz rfl _;clear BM;have FIN:Hid (∀(W':World),Bt w W'->¬a2<n->(a4&&(n !=a3)&&hh)=false->zG w (W'.setCell (az bl (j*16+(k+1))) (Iq n)) (.returned .nilIface) rb B s i av (Sq bl L.length cap) fv L KV j k n rg tw bl):=fun W' hb c1 c2=>by
  have hn':=HN.up (Up.below (B:=B) hb);refine⟨gr_trans (fG hb) (ct W' bl _ _),by rw[HD.out,if_neg c1,c2];rfl,PR.far (HR.below hb) (ct W' bl _ _) (fun q e=>by grind) hrb,?_,(Fr.below hb hB).trans (Fr.own (ct W' bl _ _) (aO hB hb.size) (fun q e=>by grind)),?_⟩;·rw[HL.out,if_neg (by grind)];have:=hn'.setAttr hj hk n;omega
  ·have:=hb.size;simp;omega
 have zay:Hid (∀(o:Obj),¬a2<n->(a4&&(n !=a3)&&hh)=false->zG w ((w.setCell (az bl (j*16+(k+1))) (Iq n)).alloc o) (.returned .nilIface) rb B s i av (Sq bl L.length cap) fv L KV j k n rg tw bl):=fun o c1 c2=>by obtain⟨e0,e1,e2,e3,e4,e5⟩:=FIN w (aj _ _) c1 c2;have hb:Below (w.setCell (az bl (j*16+(k+1))) (Iq n)).heap.size (w.setCell (az bl (j*16+(k+1))) (Iq n)) ((w.setCell (az bl (j*16+(k+1))) (Iq n)).alloc o):=(aj _ _).alloc (ai _) _;exact⟨gr_trans e0 (fG hb),e1,e2.below hb,e3.up (Up.below hb),e4.trans (Fr.below hb e5),aO e5 hb.size⟩
 have KEP:Hid (∀(W':World),Bt w W'->(a2<n\/(a4&&(n !=a3)&&hh)=true)->zG w W' (.returned (Hv L k n rg tw)) rb B s i av (Sq bl L.length cap) fv L KV j k n rg tw bl):=fun W' hb c1=>
  ⟨fG hb,rfl,HR.below hb,by rw[HL.out,if_pos c1];exact HN.up (Up.below hb),Fr.below hb hB,aO hB hb.size⟩;have er:=ER.out;have et:=ET.out;by_cases c1:a2<n
 ·have HV:Hid (Hv L k n rg tw=.iface 362 (.pointer (some rg))):=by show _=_;rw[HD.out,if_pos c1];rfl
  have d1:=decide_eq_true c1;go_enter func210,ntmps210;go_wp2;go_ret;have:=KEP _ BA (.inl c1);rw[HV.out]at this;exact this
 ·have d1:=decide_eq_false c1;cases YR:a4 with
  |false=>subst YR;go_enter func210,ntmps210;go_wp2_with(first|(go_at_fn g;refine(HQ.2 _ _ _).mono ?_;rintro e w2 ⟨rfl,hw⟩;obtain rfl:=hw.symm));go_ret;exact zay _ (by omega) rfl
  |true=>
   subst YR;by_cases c2:n=a3
   ·subst c2;have e2:(n !=n)=false:=by simp
    have e2':(n==n)=true:=by simp
    go_enter func210,ntmps210;go_wp2_with(first|(go_at_fn g;refine(HQ.2 _ _ _).mono ?_;rintro e w2 ⟨rfl,hw⟩;obtain rfl:=hw.symm));go_ret;exact zay _ (by omega) (by grind)
   ·have e2:(n !=a3)=true:=by simpa using c2
    have e2':(n==a3)=false:=by simpa using c2
    have CS:=qH<|HS _ (HR.below BA) (HN.up (Up.below BA));go_enter func210,ntmps210;go_wp2_with fail;refine CS.mono ?_;rintro e w2 ⟨rfl,hb2⟩;have HB2:=qH<|BA.trans (hb2.mono (by simp));have d5:w2.cell? (az w.heap.size 5)=some (.func (.func g) #[] #[]):=(hb2.cell (p:=(az w.heap.size 5)) (by simp)).trans (by simp_all);have et2:=(HB2.cell (p:=(az 3 0)) Fx).trans et;have ceb:=(HB2.cell (p:=(az bl (j*16+(k+1)))) hbl).trans ce;have cfb:=(HB2.frozen (p:=(az bl (j*16+(k+1)))) hbl).trans cf;clear hb2 CS et er ce ce2 cf cf2;cases SB:hh with
    |true=>
     subst SB;have HV:Hid (Hv L k n rg tw=.iface 362 (.pointer (some tw))):=by show _=_;rw[HD.out,if_neg (by omega),if_pos (by grind)];rfl
     go_wp2;go_ret;have:=KEP _ HB2 (.inr (by grind));rw[HV.out]at this;exact this
    |false=>subst SB;go_wp2_with(first|(go_at_fn g;refine(HQ.2 _ _ _).mono ?_;rintro e w3 ⟨rfl,hw⟩;obtain rfl:=hw.symm));go_ret;exact FIN _ HB2 (by omega) (by grind)
def fx(name:ByteArray)(kind:Nat):Nat->Nat->Option Nat
 |0,_=>none
 |f+1,j=>if jq j=name/\ofK (pZ j) kind=true then some j else fx name kind f (j+1)
def wW:Value:=.agg #[.string ⟨#[]⟩,.int .u64 0,Iq 0,Iq 0,.bool false,.nilFunc]
def uC(name:ByteArray)(kind:Nat)(ws:List ByteArray)(no tw:Addr):Value:=match fx name kind 12 0 with
 |none=>.tuple #[wW,bH no]
 |some j=>if 0<=aR ws name 0 then .tuple #[wW,bH tw]else .tuple #[wa j,.nilIface]
theorem cQ{fn:Func}{p u}{ty}(h:fn.results=#[.cell p ty,.tmp u])  tmps   P   w   g   cs 
 (hp:tmps.getD p undef=Pq g) (hl:(loadVar ty (az g 0)).run P w=.ok (.agg cs) w):
 (results fn tmps).run P w=.ok (.tuple #[.agg cs,tmps.getD u undef]) w:=by rw[results_cell_tmp h,hp];simp[asAddr,hl]
theorem Es{W:World}{b}{T}{o0 o1 o2 o3 o4 o5}(h:W.heap[b]?=some (.cells #[o0,o1,o2,o3,o4,o5] T (0,0)))  v0 v1 v2 v3 v4 v5  :
 ((((((W.setCell (az b 0) v0).setCell (az b 1) v1).setCell (az b 2) v2).setCell (az b 3) v3).setCell (az b 4) v4).setCell (az b 5) v5).heap[b]?=some (.cells #[v0,v1,v2,v3,v4,v5] T (0,0)):=
 heap_setCell_same _ b 5 _ T _ (heap_setCell_same _ b 4 _ T _ (heap_setCell_same _ b 3 _ T _ (heap_setCell_same _ b 2 _ T _ (heap_setCell_same _ b 1 _ T _ (heap_setCell_same _ b 0 _ T _ h)))))
theorem Gi(X:World):X.drew.heap=X.heap:=rfl
theorem yV{W:World}{b}{T}{o0 o1 o2 o3 o4 o5}(h:W.heap[b]?=some (.cells #[o0,o1,o2,o3,o4,o5] T (0,0)))  v0 v1 v2 v3 v4 v5  :
 (((((((W.setCell (az b 0) v0).setCell (az b 1) v1).setCell (az b 2) v2).setCell (az b 3) v3).setCell (az b 4) v4).setCell (az b 5) v5).drew).heap[b]?=some (.cells #[v0,v1,v2,v3,v4,v5] T (0,0)):=by grind[Gi,Es]
theorem rZ{B}{w w'}(h:Below B w w'):Below B w w'.drew:=⟨h.os,h.tape,h.output,h.size,h.block⟩
theorem oQ{B b}{W W'}(h:Below B W W')(hb:B<=b)  v0 v1 v2 v3 v4 v5  :Below B W ((((((W'.setCell (az b 0) v0).setCell (az b 1) v1).setCell (az b 2) v2).setCell (az b 3) v3).setCell (az b 4) v4).setCell (az b 5) v5):=
 gI (gI (gI (gI (gI (gI h hb v0) hb v1) hb v2) hb v3) hb v4) hb v5
theorem kd_four  j  (hj:j<12):pZ j=127\/pZ j=3\/pZ j=8\/pZ j=32:=by
 have:j=0\/j=1\/j=2\/j=3\/j=4\/j=5\/j=6\/j=7\/j=8\/j=9\/j=10\/j=11:=by omega
 rcases this with rfl|rfl|rfl|rfl|rfl|rfl|rfl|rfl|rfl|rfl|rfl|rfl<;>decide
theorem uz.below{W W'}{v}{ws}(h:uz W v ws)(hb:Bt W W'):uz W' v ws:=by
 obtain⟨p,c,rfl,rfl|⟨blk,rfl,h1,h2⟩⟩:=h;·exact⟨p,c,rfl,.inl rfl⟩
 ·exact⟨_,c,rfl,.inr ⟨blk,rfl,zz008 h1 hb.size,fun j hj=>(hb.cell (p:=(az blk (0+j))) h1).trans (h2 j hj)⟩⟩
theorem attributeOf_any(rb ab:Nat)(s:ByteArray)(i:Nat)(nv fv:Value)(kind:Nat)(name:ByteArray)(v:Value)(ws:List ByteArray)(no tw:Addr)(w:World)(h:PR w rb s i (Sq ab 12 12) nv fv)(ht:NJ w ab)(hk:kind<7)(hv:uz w v ws)(hn:ws.length<=1099511627776)
 (en:w.cell? (az 5 0)=some (bH no)) (et:w.cell? (az 3 0)=some (bH tw)):
 Cw 208 #[Pq rb,Iq (kind:Int),.string name,v] w fun e w'=>e=Rw (uC name kind ws no tw)/\Bt w w':=by
 have EN:Hid (w.cell? (az 5 0)=some (.iface 362 (.pointer (some no)))):=en;have ET:Hid (w.cell? (az 3 0)=some (.iface 362 (.pointer (some tw)))):=et;have hl5:5<w.heap.size:=l8 w _ en;have Fx:3<w.heap.size:=l8 w _ et;have HT:=qH<|ht;have HX:=qH<|hv;have c2:=h.c2;have tG:=h.lt;have tC:=ht.lt;have HI:=qH<|fun n m mo wi sg fv w hm=>PJ n m kind mo wi sg fv w hm hk;have HV:Hid (∀r,fx name kind 12 0=r->uC name kind ws no tw=match r with
  |none=>.tuple #[wW,bH no]
  |some j=>if 0<=aR ws name 0 then .tuple #[wW,bH tw]else .tuple #[wa j,.nilIface]):=fun r hr=>by grind[uC]
 obtain⟨pv,cv,rfl,_⟩:∃p c,v=.slice p ws.length c/\True:=by obtain⟨p,c,e,_⟩:=hv;grind
 clear h ht hv en et;go_enter func208,ntmps208;go_wp2;go_loopw[17] (fun u wr=>∃j:Nat,u=Iq (j:Int)/\j<=12/\Hid (fx name kind 12 0=fx name kind (12-j) j)/\Hid (Bt w wr)/\Hid (wr.heap[w.heap.size]?=some (.cells #[.string ⟨#[]⟩,.int .u64 0,Iq 0,Iq 0,.bool false,.nilFunc] 203 (0,0)))) (fun u _=>12-(intOf u).toNat);case atStart=>exact⟨0,rfl,by omega,rfl,(aj _ _).alloc (ai _) _,heap_alloc_new _ _⟩
 case round=>
  obtain⟨j,rfl,hj,HS,HB,HR⟩:=hrel;have MR:=(aM.1 HR).1;have en:=(HB.cell (p:=(az 5 0)) hl5).trans EN;by_cases hlt:j<12
  ·have aN:(j:Int)<12:=by omega
   have hT:=HT.fr (Fr.below (r:=w.heap.size) HB (ai _)) tC (by omega);obtain⟨t0,t1,t2,t3,t4,t5⟩:=hT.at hlt;have hT2:=hT.lt;have Nc:=qH<|kd_four j hlt;have tV:Hid (fx name kind 12 0=if jq j=name/\ofK (pZ j) kind=true then some j else fx name kind (12-(j+1)) (j+1)):=by show _=_;rw[HS.out,show 12-j=(12-(j+1))+1 by omega];rfl
   have oN:Hid (wa j=.agg #[.string (jq j),.int .u64 (pZ j:Int),Iq (o6 j),Iq (pw j),.bool (tN j),.func (.func (zZ j)) #[] #[]]):=rfl;obtain⟨g,hg⟩:=ag (zZ j);obtain⟨a0,h0⟩:=ag (jq j);obtain⟨a1,h1⟩:=ag (pZ j);obtain⟨a2,h2⟩:=ag (o6 j);obtain⟨a3,h3⟩:=ag (pw j);obtain⟨a4,h4⟩:=ag (tN j);rw[h0]at t0 tV;rw[h1]at t1 Nc tV;rw[h2]at t2;rw[h3]at t3;rw[h4]at t4;rw[hg]at t5;rw[h0,h1,h2,h3,h4,hg]at oN;clear h0 h1 h2 h3 h4 hg hT;by_cases e0:a0=name;·subst e0;have CI:Hid (∀W,Cw 229 #[.agg #[.string a0,.int .u64 (a1:Int),Iq a2,Iq a3,.bool a4,.func (.func g) #[] #[]],Iq (kind:Int)] W fun e w'=>e=Rw (.bool (ofK a1 kind))/\Bt W w'):=fun W=>HI _ _ _ _ _ _ _ Nc;obtain⟨ok,MM⟩:=ag (ofK a1 kind);rw[MM]at CI;rw[MM]at tV;clear MM;go_wp2_with fail;refine(CI _).mono ?_;rintro e w2 ⟨rfl,hb2⟩;have HB2:=qH<|(HB.alloc (Nat.le_of_lt MR) _).trans (hb2.mono (by simp;omega));have HR2:=qH<|(hb2.block _ (by simp;omega)).trans ((heap_alloc_old _ _ MR).trans HR);have Mv:Hid (w2.heap[wr.heap.size]?=some (.cells #[.string a0,.int .u64 (a1:Int),Iq a2,Iq a3,.bool a4,.func (.func g) #[] #[]] 203 (0,0))):=(hb2.block _ (by simp)).trans (heap_alloc_new _ _);clear hb2 t0 t1 t2 t3 t4 t5 en;cases ok with
    |false=>
     have Tm:Hid (fx a0 kind 12 0=fx a0 kind (12-(j+1)) (j+1)):=by show _=_;rw[tV.out,if_neg (by simp)]
     clear tV;go_wp2;go_roundw;case rel=>grind
     case measure=>simp[intOf];omega
    |true=>
     have Tm:Hid (fx a0 kind 12 0=some j):=by show _=_;rw[tV.out,if_pos (by simp)]
     clear tV;have CC:=qH<|contains_any ws a0 _ w2 (HX.below HB2) hn;by_cases hf:0<=aR ws a0 0
     ·have J1:Hid (uC a0 kind ws no tw=.tuple #[wW,bH tw]):=by show _=_;rw[HV _ Tm.out];simp only[if_pos hf]
      rw[decide_eq_true hf]at CC;have et:=(HB2.cell (p:=(az 3 0)) Fx).trans ET;have hr2:=HR2.out;have ziI:=(aM.1 hr2).1;have z0:w2.cell? (az w.heap.size 0)=some (.string ⟨#[]⟩):=by simp[World.cell?,hr2]
      have z1:w2.cell? (az w.heap.size 1)=some (.int .u64 0):=by simp[World.cell?,hr2]
      have z2:w2.cell? (az w.heap.size 2)=some (Iq 0):=by simp[World.cell?,hr2]
      have z3:w2.cell? (az w.heap.size 3)=some (Iq 0):=by simp[World.cell?,hr2]
      have z4:w2.cell? (az w.heap.size 4)=some (.bool false):=by simp[World.cell?,hr2]
      have z5:w2.cell? (az w.heap.size 5)=some .nilFunc:=by simp[World.cell?,hr2]
      have zf:∀q,w2.frozen? (az w.heap.size q)=false:=fun q=>frozen_of_row _ _ _ _ _ hr2;clear hr2;go_wp2_with fail;refine CC.mono ?_;rintro e w3 ⟨rfl,tI⟩;obtain rfl:=tI.symm;go_wp2_with fail;have hg3:3≠w.heap.size:=by omega
      go_region;all_goals go_wp2;refine bodyPost_ret (cQ rfl _ _ _ w.heap.size _ rfl (run_loadVar_row _ _ _ _ _ _ _ (yV HR2 _ _ _ _ _ _) underlying203 rfl (by kernel_rfl))) rfl ?_;exact⟨by rw[J1.out];rfl,rZ (oQ HB2 (ai _) _ _ _ _ _ _)⟩
     ·have J1:Hid (uC a0 kind ws no tw=.tuple #[wa j,.nilIface]):=by show _=_;rw[HV _ Tm.out];simp only[if_neg hf]
      rw[decide_eq_false hf]at CC;have hr2:=HR2.out;have ziI:=(aM.1 hr2).1;have z0:w2.cell? (az w.heap.size 0)=some (.string ⟨#[]⟩):=by simp[World.cell?,hr2]
      have z1:w2.cell? (az w.heap.size 1)=some (.int .u64 0):=by simp[World.cell?,hr2]
      have z2:w2.cell? (az w.heap.size 2)=some (Iq 0):=by simp[World.cell?,hr2]
      have z3:w2.cell? (az w.heap.size 3)=some (Iq 0):=by simp[World.cell?,hr2]
      have z4:w2.cell? (az w.heap.size 4)=some (.bool false):=by simp[World.cell?,hr2]
      have z5:w2.cell? (az w.heap.size 5)=some .nilFunc:=by simp[World.cell?,hr2]
      have zf:∀q,w2.frozen? (az w.heap.size q)=false:=fun q=>frozen_of_row _ _ _ _ _ hr2;have ha2:=Mv.out;have y0:w2.cell? (az wr.heap.size 0)=some (.string a0):=by simp[World.cell?,ha2]
      have y1:w2.cell? (az wr.heap.size 1)=some (.int .u64 (a1:Int)):=by simp[World.cell?,ha2]
      have y2:w2.cell? (az wr.heap.size 2)=some (Iq a2):=by simp[World.cell?,ha2]
      have y3:w2.cell? (az wr.heap.size 3)=some (Iq a3):=by simp[World.cell?,ha2]
      have y4:w2.cell? (az wr.heap.size 4)=some (.bool a4):=by simp[World.cell?,ha2]
      have y5:w2.cell? (az wr.heap.size 5)=some (.func (.func g) #[] #[]):=by simp[World.cell?,ha2]
      clear hr2 ha2;go_wp2_with fail;refine CC.mono ?_;rintro e w3 ⟨rfl,tI⟩;obtain rfl:=tI.symm;go_wp2;refine bodyPost_ret (cQ rfl _ _ _ w.heap.size _ rfl (run_loadVar_row _ _ _ _ _ _ _ (Es HR2 _ _ _ _ _ _) underlying203 rfl (by kernel_rfl))) rfl ?_;exact⟨by rw[J1.out,oN.out];rfl,oQ HB2 (ai _) _ _ _ _ _ _⟩
   ·have e1:=Bd e0;have Tm:Hid (fx name kind 12 0=fx name kind (12-(j+1)) (j+1)):=by show _=_;rw[tV.out,if_neg (fun h=>e0 h.1)]
    clear tV;go_wp2;go_roundw;case rel=>exact⟨j+1,by go_num,by omega,Tm,HB.alloc (by omega) _,(heap_alloc_old _ _ MR).trans HR⟩
    case measure=>simp[intOf];omega
  ·obtain rfl:j=12:=by omega
   have Tm:Hid (fx name kind 12 0=none):=HS.out;have J1:Hid (uC name kind ws no tw=.tuple #[wW,bH no]):=by show _=_;rw[HV _ Tm.out]
   have hr2:=HR.out;have z0:wr.cell? (az w.heap.size 0)=some (.string ⟨#[]⟩):=by simp[World.cell?,hr2]
   have z1:wr.cell? (az w.heap.size 1)=some (.int .u64 0):=by simp[World.cell?,hr2]
   have z2:wr.cell? (az w.heap.size 2)=some (Iq 0):=by simp[World.cell?,hr2]
   have z3:wr.cell? (az w.heap.size 3)=some (Iq 0):=by simp[World.cell?,hr2]
   have z4:wr.cell? (az w.heap.size 4)=some (.bool false):=by simp[World.cell?,hr2]
   have z5:wr.cell? (az w.heap.size 5)=some .nilFunc:=by simp[World.cell?,hr2]
   have zf:∀q,wr.frozen? (az w.heap.size q)=false:=fun q=>frozen_of_row _ _ _ _ _ hr2;have hg5:5≠w.heap.size:=by omega
   clear hr2 HS;go_wp2_with fail;go_region;all_goals go_wp2;refine bodyPost_ret (cQ rfl _ _ _ w.heap.size _ rfl (run_loadVar_row _ _ _ _ _ _ _ (yV HR _ _ _ _ _ _) underlying203 rfl (by kernel_rfl))) rfl ?_;exact⟨by rw[J1.out];rfl,rZ (oQ HB (ai _) _ _ _ _ _ _)⟩
