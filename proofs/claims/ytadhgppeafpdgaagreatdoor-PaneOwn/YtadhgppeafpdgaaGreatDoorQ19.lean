import Derived.Test.YtadhgppeafpdgaaGreatDoorQ18
import Derived.Deep.CutRange
import Derived.Laws.EntriesVeiled
set_option linter.all false
set_option maxRecDepth 100000
set_option maxHeartbeats 16000000
namespace Go.Proofs.YtadhgppeafpdgaaGreatDoor
open Go.RowKit Go.Proofs.Tryz
theorem lQ{P}{uW}{o}{a}{w}{K}{Q}{E}
 (hg:o.guard=none)  s x   t  (hop:o.op=Op.call {callee:=Callee.builtin Builtin.append,args:=#[s,x],argTypes:=#[t,t]})
  base   e   i   z   size bytes  (h1:P.underlying t=some (.slice e)) (h2:P.info? e=some i) (h3:i.zero=some z) (h4:i.size=size) (h5:i.bytes=bytes) (h6:z.cells.size=size) (h7:0<size)
  v   n   FH  (hs:a.eval s=v) (bC:w.ownsRow base e size v n FH)
  ad   m c   ie  (hx:a.eval x=.slice (some ad) m c) (hn:ie.length=m*size) (hc:∀j u,ie[j]?=some u->w.cell? (ad.add j)=some u) (RI:∀u∈ie,u.oneCell'=true)
 (b1:n+m<=maxLen) (b2:(n+m)*bytes<=140737488355328) (b3:base<=w.heap.size)
 (hK:∀v' w',w'.ownsRow base e size v' (n+m) (FH++ie)->w.grownBy w' v.ownBlock->(v'.ownBlock=v.ownBlock\/v'.ownBlock=some w.heap.size)->K (a.put o.dst v') w'):
 if Region.wanted o (yielded uW a.tmps)=true then Oper.wp P o a w K Q else E:=by
 have hw:Region.wanted o (yielded uW a.tmps)=true:=by simp[Region.wanted,hg]
 rw[if_pos hw];obtain⟨v',w',wG,r1,r2,_,r3⟩:=run_append_own_at (P:=P) w base t o.type e i z size bytes h1 h2 h3 h4 h5 h6 h7 v n FH bC ad m c ie hn hc RI b1 b2 b3;unfold Oper.wp;simp[execOp,hop,resolve,invoke,builtin,hs,hx,wG,Result.andThen];exact hK v' w' r1 r2 r3
theorem O5:(prog.info? 94).map (fun i=>(i.zero,i.size,i.bytes))=some (some (.agg #[Iq 0,Iq 0,Iq 0,Iq 0,Iq 0,Iq 0,Iq 0,Iq 0,Iq 0,Iq 0,Iq 0,Iq 0,Iq 0,.string ⟨#[]⟩,.slice none 0 0,Iq 0]),16,152):=by kernel_rfl
theorem iE{W:World}{B n size}{e}{v}{xs}(h:W.ownsRow B e size v n xs):∃p c,v=.slice p n c:=by grind[de]
theorem pY(w:World)  cs   T   xs  (h:cs.toList=xs):∀j u,xs[j]?=some u->(w.alloc (.cells cs T)).cell? (((aq w.heap.size 0):Addr).add j)=some u:=by
 intro j u hu;have e:((aq w.heap.size 0):Addr).add j=(aq w.heap.size (0+j)):=by unfold Addr.add;split<;>simp_all
 rw[e,cB,World.cell?_alloc_at _ _ _ _ rfl,<-hu,<-h];simp
theorem Zd  d   p   n c  :∀u∈aZ d (.slice p n c),u.oneCell'=true:=by intro u hu;unfold aZ at hu;simp at hu;rcases hu with rfl|⟨x,_,rfl⟩|rfl|rfl|rfl<;>rfl
theorem PR.far{W W1}{o}{rb B}{s}{i}{av nv fv}(h:PR W rb s i av nv fv)(hg:W.grownBy W1 o)(ho:∀g,o=some g->B<=g)(hr:rb<B):PR W1 rb s i av nv fv:=by have hb:=hg.block rb h.lt (fun e=>by grind);have k:∀j,W1.cell? (aq rb j)=W.cell? (aq rb j):=fun j=>ba hb;exact⟨zz007 h.lt hg.size,(k 0).trans h.c0,(k 1).trans h.c1,(k 2).trans h.c2,(k 3).trans h.c3,(k 4).trans h.c4,fun j=>(vI hb).trans (h.fz j)⟩
theorem PR.setN{W}{rb}{s}{i}{av nv fv}(h:PR W rb s i av nv fv)  wQ  :PR (W.setCell (aq rb 3) wQ) rb s i av wQ fv:=
 ⟨by simpa using h.lt,bN (by omega) h.c0,bN (by omega) h.c1,bN (by omega) h.c2,pu h.c3,bN (by omega) h.c4,fun j=>by rw[kO];exact h.fz j⟩
theorem Up.set{B b o}  W  (hb:b<B)  v  :Up B W (W.setCell (aq b o) v):=⟨by simp,fun k h1 h2=>bv W (aq b o) v k (by grind)⟩
theorem Fr.set{B r o}  W   v  :Fr B r W (W.setCell (aq r o) v):=⟨rfl,rfl,rfl,by simp,fun k h1 h2=>bv W (aq r o) v k h2⟩
theorem QC:(prog.info? 3).map (fun i=>(i.zero,i.size,i.bytes))=some (some (Iq 0),1,8):=by kernel_rfl
def nC(w w':World)(rb B:Nat)(s:ByteArray)(i:Nat)(av fv:Value)(L:List Nd):Prop:=∃nv KV,PR w' rb s i av nv fv/\PN w' B nv L KV/\Fr B rb w w'/\B<=w'.heap.size
theorem dD{B}{w w'}(h:Below B w w')  q  :Below B w (w'.drewN q):=⟨h.os,h.tape,h.output,h.size,h.block⟩
theorem ft{B b o}{w w'}(h:Below B w w')(hb:B<=b)  v  :Below B w (w'.setCell (aq b o) v):=
 ⟨h.os,h.tape,h.output,by simpa using h.size,fun k hk=>(bv w' (aq b o) v k (by grind)).trans (h.block k hk)⟩
theorem SE{w wc w3}{rb B g n1 c' j c:Nat}{s}{i}{av fv v'}{L1}{KV1}{pk}{ck}{ks}
 (hp:PR w3 rb s i av (Sq g n1 c') fv) (hn:PN wc B (Sq g n1 c') L1 KV1) (hl:L1.length=n1) (hf:Fr B rb w wc) (hB:B<=wc.heap.size) (Wx:rb<B) (Tf:B<=g) (hj:j<n1)
 (hk:KV1 j=.slice pk ks.length ck) (hks:(ac L1 j).kids=ks)  o  (ho:w3.ownsRow B 3 1 v' (ks.length+1) (uJ ks++[Iq (c:Int)])) (hg:((wc.alloc o).drew).grownBy w3 (Value.slice pk ks.length ck).ownBlock)
 (dm:v'.ownBlock=(Value.slice pk ks.length ck).ownBlock\/v'.ownBlock=some ((wc.alloc o).drew).heap.size):
 nC w (w3.setCell (aq g (j*16+14)) v') rb B s i av fv (L1.modify j fun u=>{u with kids:=u.kids++[c]}):=by subst hl;have hkr:=hn.nr.kids j hj;rw[hk]at hkr;have oi:Bt wc (wc.alloc o).drew:=dD ((ag wc.heap.size wc).alloc (ae _) o) 1;have HN4:=hn.up (Up.below (B:=B) oi);have HN5:=HN4.kid (k:=j) (c:=c) (W':=w3) (kv':=v') hj (by grind[uJ]) (by grind) (by grind);have HF3:Fr B rb wc w3:=(Fr.below oi hB).trans (Fr.own hg (aH hB oi.size) (fun g e=>(hkr.lt g e).1));have HF4:Fr B rb w3 (w3.setCell (aq g (j*16+14)) v'):=Fr.own (fw w3 g _ _) (aH hB HF3.size) (fun q e=>by grind);exact⟨_,_,PR.far hp (fw w3 g _ _) (fun q e=>by grind) Wx,HN5,hf.trans (HF3.trans HF4),by have:=HF3.size;have:=HF4.size;omega⟩
def Mi(w w':World)(rb B:Nat)(s:ByteArray)(i:Nat)(av fv:Value)(L:List Nd)(KV:Nat->Value):Prop:=∃p c,PR w' rb s i av (.slice p L.length c) fv/\PN w' B (.slice p L.length c) L (fun j=>if j=L.length-1 then .slice none 0 0 else KV j)/\Fr B rb w w'/\B<=w'.heap.size
def AU(kind:Nat)(up:Int)(k t:Nat):Value:=if t=0 then Iq (kind:Int)else if t<=k then Iq (oe (t-1))else if t<=12 then Iq 0 else if t=13 then .string ⟨#[]⟩else if t=14 then .slice none 0 0 else Iq up
theorem MW{kind}{up}{k}(hk:k<12):AU kind up (k+1) (k+1)=Iq (oe k):=by grind[AU]
theorem MX{kind}{up}{k t}(h:t≠k+1):AU kind up (k+1) t=AU kind up k t:=by grind[AU]
theorem Ew{kind:Nat}{up}{w:World}{T}  t  (ht:t<16):(w.alloc (.cells #[Iq (kind:Int),Iq 0,Iq 0,Iq 0,Iq 0,Iq 0,Iq 0,Iq 0,Iq 0,Iq 0,Iq 0,Iq 0,Iq 0,.string ⟨#[]⟩,.slice none 0 0,Iq up] T)).cell? (aq w.heap.size t)=some (AU kind up 0 t):=by
 rw[World.cell?_alloc_at _ _ _ _ rfl];have:t=0\/t=1\/t=2\/t=3\/t=4\/t=5\/t=6\/t=7\/t=8\/t=9\/t=10\/t=11\/t=12\/t=13\/t=14\/t=15:=by omega
 rcases this with rfl|rfl|rfl|rfl|rfl|rfl|rfl|rfl|rfl|rfl|rfl|rfl|rfl|rfl|rfl|rfl<;>rfl
theorem AW(rb ab B:Nat)(s:ByteArray)(i:Nat)(nv fv:Value)(L:List Nd)(KV:Nat->Value)(kind:Nat)(up:Int)(w:World)(h:PR w rb s i (Sq ab 12 12) nv fv)(hn:PN w B nv L KV)(ht:MO w ab)(Wx:rb<B)(Hn:ab<B)(bj:ab≠rb)(hB:B<=w.heap.size)(hL:L.length<=100000)(hup:up=-1\/(0<=up/\up<L.length))(cZ:∀j ks,j<L.length->(ac L j).kids=ks->ks.length<=100000000):
 Cw 112 #[Pq rb,Iq (kind:Int),Iq up] w fun e w'=>e=Rw (Iq (L.length:Int))/\nC w w' rb B s i (Sq ab 12 12) fv (grown L ⟨kind,aV,[],[],up⟩):=by
 obtain⟨pn,cn,rfl⟩:∃p c,nv=.slice p L.length c:=iE hn.nr.row.choose_spec;have HR:=qH<|h;have HN:=qH<|hn;have HT:=qH<|ht;have c2:=h.c2;have oj:=h.lt;have zq:=ht.lt;obtain⟨i0,hi,dJ,fy,fB⟩:=info_parts O5;clear h hn ht;go_enter func112,ntmps112;go_wp2;go_loopw[19] (fun v wr=>∃k:Nat,v=Iq (k:Int)/\k<=12/\w.heap.size<wr.heap.size/\Hid (Bt w wr)/\Hid (∀t,t<16->wr.cell? (aq w.heap.size t)=some (AU kind up k t)/\wr.frozen? (aq w.heap.size t)=false)) (fun v _=>12-(intOf v).toNat);case atStart=>exact⟨0,rfl,by omega,by simp,(ag _ _).alloc (ae _) _,fun t ht=>⟨Ew t ht,frozen_of_row _ _ _ _ _ (heap_alloc_new _ _)⟩⟩
 case round=>
  obtain⟨k,rfl,hk,eV,HB,HC⟩:=hrel;by_cases hlt:k<12
  ·have aR:(k:Int)<12:=by omega
   have hT:=HT.fr (Fr.below (r:=rb) HB (ae _)) zq bj;obtain⟨t0,t1,t2,t3,t4,t5⟩:=hT.at hlt;have hT2:=hT.lt;obtain⟨d1,f1⟩:=HC (k+1) (by omega);have HQ:=qH<|in_at k hlt;obtain⟨g,hg⟩:=af (zh k);obtain⟨a0,h0⟩:=af (iz k);obtain⟨a1,h1⟩:=af (oS k);obtain⟨a2,h2⟩:=af (nW k);obtain⟨a3,h3⟩:=af (oe k);obtain⟨a4,h4⟩:=af (sF k);rw[h0]at t0;rw[h1]at t1;rw[h2]at t2;rw[h3]at t3;rw[h4]at t4;rw[hg]at t5 HQ;have H3:=qH<|h3;obtain⟨x1,uA⟩:=af (AU kind up k (k+1));rw[uA]at d1;have eg:=HQ.1;clear h0 h1 h2 h3 h4 hg hT uA;go_wp2_with fail;go_region_with(go_at_fn g;refine(HQ.2 _ _ _).mono ?_;rintro e w2 ⟨rfl,rfl⟩);all_goals
    go_wp2;go_roundw;case rel=>
     refine⟨k+1,by go_num,by omega,by simp;omega,?_,fun t ht=>?_⟩;·exact dD (Below.alloc (ft HB (ae _) _) (by simp;omega) _) 1
     ·have hb:∀(o:Obj) (u:Value),(((wr.setCell (aq w.heap.size (k+1)) u).alloc o).drew).heap[w.heap.size]?=(wr.setCell (aq w.heap.size (k+1)) u).heap[w.heap.size]?:=fun o u=>by show((wr.setCell (aq w.heap.size (k+1)) u).alloc o).heap[w.heap.size]?=_;exact heap_alloc_old _ _ (by simp;omega)
      refine⟨?_,?_⟩
      ·rw[ba (hb _ _)];by_cases e:t=k+1;·subst e;rw[pu (HC (k+1) ht).1,MW hlt,H3.out]
       ·rw[bN e (HC t ht).1,MX e]
      ·rw[vI (hb _ _),kO];exact(HC t ht).2
    case measure=>simp[intOf];omega
  ·obtain rfl:k=12:=by omega
   have n0:wr.cell? (aq w.heap.size 0)=some (Iq (kind:Int)):=(HC 0 (by omega)).1;have n1:wr.cell? (aq w.heap.size 1)=some (Iq 0):=(HC 1 (by omega)).1;have n2:wr.cell? (aq w.heap.size 2)=some (Iq 0):=(HC 2 (by omega)).1;have n3:wr.cell? (aq w.heap.size 3)=some (Iq (-1)):=(HC 3 (by omega)).1;have n4:wr.cell? (aq w.heap.size 4)=some (Iq 1):=(HC 4 (by omega)).1;have n5:wr.cell? (aq w.heap.size 5)=some (Iq 0):=(HC 5 (by omega)).1;have n6:wr.cell? (aq w.heap.size 6)=some (Iq 0):=(HC 6 (by omega)).1;have n7:wr.cell? (aq w.heap.size 7)=some (Iq 1):=(HC 7 (by omega)).1;have n8:wr.cell? (aq w.heap.size 8)=some (Iq 0):=(HC 8 (by omega)).1;have n9:wr.cell? (aq w.heap.size 9)=some (Iq 1):=(HC 9 (by omega)).1;have Y4:wr.cell? (aq w.heap.size 10)=some (Iq 0):=(HC 10 (by omega)).1;have Y5:wr.cell? (aq w.heap.size 11)=some (Iq 0):=(HC 11 (by omega)).1;have Y6:wr.cell? (aq w.heap.size 12)=some (Iq 0):=(HC 12 (by omega)).1;have Ut:wr.cell? (aq w.heap.size 13)=some (.string ⟨#[]⟩):=(HC 13 (by omega)).1;have Y7:wr.cell? (aq w.heap.size 14)=some (.slice none 0 0):=(HC 14 (by omega)).1;have Y8:wr.cell? (aq w.heap.size 15)=some (Iq up):=(HC 15 (by omega)).1;have HR1:=qH<|HR.belowB HB oj;have HN1:=qH<|HN.up (Up.below HB);have r3:=HR1.c3;have zb_:=HR1.lt;have hrn:rb≠wr.heap.size:=by omega
   obtain⟨xs,hxs⟩:=HN1.nr.row;have HX:=qH<|hxs;clear hxs c2;go_wp2_with fail;go_cut[10]from 35 to 44 (fun v wx=>v=Iq (L.length:Int)/\Hid (Mi w wx rb B s i (Sq ab 12 12) fv (L++[⟨kind,aV,[],[],up⟩]) KV));case first=>
    go_region_law(refine lQ rfl (.tmp 39) (.tmp 41) 67 rfl B 94 i0 _ 16 152 underlying67 hi dJ fy fB rfl (by decide) (.slice pn L.length cn) L.length xs (by simp[Act.eval]) (yo (w:=wr.drew) HX _) _ 1 1 (aZ ⟨kind,aV,[],[],up⟩ (.slice none 0 0)) (by simp[Act.eval]) rfl (pY _ _ _ _ rfl) (Zd _ _ _ _) (by unfold maxLen;omega) (by omega) (by simp;omega) ?_;intro v' w1 bS hg dm;obtain⟨p',c',hv'⟩:=iE bS;subst hv';have tn:=qH<|PR.far ((HR1.drewN 1).below ((ag _ _).alloc (ae _) _)) hg (fun g e=>(HX.lt g e).1) Wx;have k3:=tn.c3;have kf:=tn.fz 3);all_goals
     have hzr:=HB.size;have HN2:=qH<|PN.app (HN1.up (Up.below (dD ((ag _ _).alloc (by simp) _) 1))) (yo (w:=wr.drew) HX _) bS hg rfl rfl;have HF1:Hid (Fr B rb w w1):=(Fr.below HB hB).trans ((Fr.below (dD ((ag wr.heap.size wr).alloc (by simp) _) 1) (by omega)).trans (Fr.own hg (by simp;omega) (fun g e=>(HX.lt g e).1)));obtain⟨w2,sW⟩:=af (w1.setCell (aq rb 3) (.slice p' (L.length+1) c'));have tq:Hid (PR w2 rb s i (Sq ab 12 12) (.slice p' (L.length+1) c') fv):=by rw[<-sW];exact tn.setN _
     have HN3:Hid (PN w2 B (.slice p' (L.length+1) c') (L++[⟨kind,aV,[],[],up⟩]) (fun j=>if j=L.length then .slice none 0 0 else KV j)):=by rw[<-sW];exact HN2.up (Up.set _ Wx _)
     have HF2:Hid (Fr B rb w w2):=by rw[<-sW];exact HF1.trans (Fr.set _ _)
     have sS:B<=w2.heap.size:=by have:=HF2.size;omega
     rw[sW];clear hg bS dm k3 kf tn HN2 HF1 HX HN1 HR1 r3 zb_ hrn n0 n1 n2 n3 n4 n5 n6 n7 n8 n9 Y4 Y5 Y6 Ut Y7 Y8 HC HB;have HM:Hid (Mi w w2 rb B s i (Sq ab 12 12) fv (L++[⟨kind,aV,[],[],up⟩]) KV):=⟨p',c',by simpa using tq.out,by simpa using HN3.out,HF2,sS⟩;go_wp2;go_meet;grind
   case rest=>
    obtain⟨rfl,HM⟩:=hcut;clear n0 n1 n2 n3 n4 n5 n6 n7 n8 n9 Y4 Y5 Y6 Ut Y7 Y8 HX HN1 HR1 r3 zb_ hrn HC HB HR HN HT;obtain⟨L1,vP⟩:=af (L++[(⟨kind,aV,[],[],up⟩:Nd)]);rw[vP]at HM;have hl1:L1.length=L.length+1:=by rw[<-vP];simp
    obtain⟨p',c',hp2,hn3,hf2,sS⟩:=HM.out;rw[hl1]at hp2 hn3;have tq:=qH<|hp2;have HF2:=qH<|hf2;rcases hup with rfl|⟨hu0,Hz⟩
    ·have HO:Hid (nC w wc rb B s i (Sq ab 12 12) fv (grown L ⟨kind,aV,[],[],-1⟩)):=by
      have fd:grown L ⟨kind,aV,[],[],-1⟩=L1:=by unfold grown;rw[if_pos (by grind)];exact vP
      rw[fd];exact⟨_,_,hp2,hn3,hf2,sS⟩
     clear hn3 hp2 hf2 HM;go_wp2;go_ret;exact⟨rfl,HO⟩
    ·obtain⟨j,rfl⟩:∃j:Nat,up=(j:Int):=⟨up.toNat,by omega⟩;have hj:j<L.length:=by omega
     have _4:Hid (grown L ⟨kind,aV,[],[],(j:Int)⟩=L1.modify j fun u=>{u with kids:=u.kids++[L.length]}):=by show _=_;rw[<-vP];exact oH L _ j rfl hj
     have hkj:(ac L1 j).kids.length<=100000000:=by rw[<-vP,eu hj];exact cZ j _ hj rfl
     obtain⟨KV1,zbc⟩:=af (fun(q:Nat)=>if q=L.length+1-1 then Value.slice none 0 0 else KV q);rw[zbc]at hn3;clear zbc vP HM;obtain⟨g,cap,hv,Tf,kM,_,_⟩:=hn3.nr.form (by omega);simp only[hl1,D6,true_and]at hv;obtain⟨rfl,rfl⟩:=hv;have OA:j<L1.length:=by omega
     have hkr:=hn3.nr.kids j OA;have aO:=hn3.len j OA;obtain⟨pk,ck,hk⟩:=iE hkr;obtain⟨ks,hks⟩:=af ((ac L1 j).kids);rw[hk,hks]at hkr;rw[hks]at hk hkj;have HKR:=qH<|hkr;have e14:wc.cell? (aq g (j*16+14))=some (.slice pk ks.length ck):=by rw[<-hk];exact hn3.nr.cells g rfl j OA 14 (KV1 j) (UI aO)
     have zeA:Hid (some g≠(Value.slice pk ks.length ck).ownBlock):=by
      obtain⟨ys,hys⟩:=hn3.nr.row;rcases fJ (v':=Sq g (L.length+1) c') hkr hys (by decide)with e|e;·grind
      ·exact fun e2=>e e2.symm
     have fd:g≠rb:=by omega
     have f14:wc.frozen? (aq g (j*16+14))=false:=hn3.nr.frz rfl (j*16+14);have d3:=hp2.c3;have hj1:(j:Int)<((L.length+1:Nat):Int):=by omega
     have L5:(j:Int)<(L.length:Int)+1:=by omega
     have ejn:((j:Int)!=-1)=true:=by rw[bne_iff_ne];omega
     have zo3:=hp2.lt;have HN3:=qH<|hn3;have HHK:=qH<|hk;have HKS:=qH<|hks;have Xn:=qH<|hl1;obtain⟨i1,hi1,hy0,_D,zy⟩:=info_parts QC;clear hkr hn3 hk hks hp2 hf2 aO hl1;go_wp2_with fail;go_cut[10]from 47 to 64 (fun v wx=>v=Iq (L.length:Int)/\Hid (nC w wx rb B s i (Sq ab 12 12) fv (grown L ⟨kind,aV,[],[],(j:Int)⟩)));case first=>
      go_region_law(refine lQ rfl (.tmp 59) (.tmp 61) 34 rfl B 3 i1 (Iq 0) 1 8 underlying34 hi1 hy0 _D zy rfl (by decide) (.slice pk ks.length ck) ks.length (uJ ks) (by simp[Act.eval]) (yo (w:=wc.drew) HKR _) _ 1 1 [Iq (L.length:Int)] (by simp[Act.eval]) rfl (pY _ _ _ _ rfl) (by intro u hu;simp at hu;subst hu;rfl) (by unfold maxLen;omega) (by omega) (by simp;omega) ?_;intro v' w3 bS hg dm;obtain⟨p'',c'',hv'⟩:=iE bS;subst hv';have iA:=qH<|PR.far ((tq.drewN 1).below ((ag _ _).alloc (ae _) _)) hg (fun g e=>(HKR.lt g e).1) Wx;have k3:=iA.c3;have Ek:=(hg.block g (zz007 kM (by simp)) zeA).trans (heap_alloc_old _ _ kM);have k14:=(ba Ek).trans e14;have zh1:=(vI Ek).trans f14);all_goals
       have HO:Hid (nC w (w3.setCell (aq g (j*16+14)) (.slice p'' (ks.length+1) c'')) rb B s i (Sq ab 12 12) fv (grown L ⟨kind,aV,[],[],(j:Int)⟩)):=by rw[_4.out];exact SE iA HN3 Xn HF2 sS Wx Tf (by omega) HHK HKS _ bS hg dm
       clear iA hg dm bS k3 Ek k14 zh1;go_wp2_with fail;go_meet;exact⟨rfl,HO⟩
     case rest=>obtain⟨rfl,HO⟩:=hcut;clear HKR e14 f14 d3 HN3;go_wp2;go_ret;exact⟨rfl,HO⟩
def fV(L:List Nd)(k:Nat)(n:Int):Bool:=L.any fun d=>d.attr[k]?.getD 0==n
theorem E3  L   n  :fV L 0 n=m7 L n:=rfl
theorem any_take_succ  L   k j   n  (hj:j<L.length) (h:fV (L.take j) k n=false) (hn:((ac L j).attr[k]?.getD 0==n)=false):fV (L.take (j+1)) k n=false:=by unfold fV at*;rw[D',List.any_append,h];grind[ac]
theorem any_at  L   k j   n  (hj:j<L.length) (hn:((ac L j).attr[k]?.getD 0==n)=true):fV L k n=true:=by grind[fV,ac]
def vh(k:Nat):Value:=.agg #[.string (iz k),.int .u64 (oS k:Int),Iq (nW k),Iq (oe k),.bool (sF k),.func (.func (zh k)) #[] #[]]
theorem sG(rb B:Nat)(s:ByteArray)(i:Nat)(av nv fv:Value)(L:List Nd)(KV:Nat->Value)(k:Nat)(hk:k<12)(n:Int)(w:World)(h:PR w rb s i av nv fv)(hn:PN w B nv L KV)(hL:L.length<=100000):
 Cw 226 #[Pq rb,vh k,Iq n] w fun e w'=>e=Rw (.bool (fV L k n))/\Bt w w':=by
 obtain⟨pn,cn,rfl⟩:∃p c,nv=.slice p L.length c:=iE hn.nr.row.choose_spec;have HQ:=qH<|in_at k hk;unfold vh;obtain⟨g,hg⟩:=af (zh k);obtain⟨a0,h0⟩:=af (iz k);obtain⟨a1,h1⟩:=af (oS k);obtain⟨a2,h2⟩:=af (nW k);obtain⟨a3,h3⟩:=af (oe k);obtain⟨a4,h4⟩:=af (sF k);rw[hg,h0,h1,h2,h3,h4];rw[hg]at HQ;have eg:=HQ.1;clear h0 h1 h2 h3 h4 hg;have HR:=qH<|h;have HN:=qH<|hn;have c3:=h.c3;have oj:=h.lt;clear h hn;go_enter func226,ntmps226;go_wp2;obtain⟨W1,bZ⟩:=af (w.alloc (.cells #[.string a0,.int .u64 (a1:Int),Iq a2,Iq a3,.bool a4,.func (.func g) #[] #[]] 195));have B1:Hid (Bt w W1):=by rw[<-bZ];exact(ag _ _).alloc (ae _) _
 have HR1:Hid (PR W1 rb s i av (.slice pn L.length cn) fv):=by rw[<-bZ];exact HR.below ((ag _ _).alloc (ae _) _)
 have HN1:=qH<|HN.up (Up.below B1);have d5:W1.cell? (aq w.heap.size 5)=some (.func (.func g) #[] #[]):=by rw[<-bZ,World.cell?_alloc_at _ _ _ _ rfl];rfl
 have d3:=HR1.c3;rw[bZ];clear bZ c3 oj HR HN;go_loopw[13] (fun v wr=>∃j:Nat,v=Iq (j:Int)/\j<=L.length/\Hid (fV (L.take j) k n=false)/\Hid (∃q,wr=W1.drewN q)) (fun v _=>L.length-(intOf v).toNat);case atStart=>exact⟨0,rfl,bm _,by show fV (L.take 0) k n=false;simp[fV],0,rfl⟩
 case round=>
  obtain⟨j,rfl,hj,HF,HW⟩:=hrel;have B2:Hid (Bt w wr):=by obtain⟨q,rfl⟩:=HW.out;exact dD B1 _
  have d5':wr.cell? (aq w.heap.size 5)=some (.func (.func g) #[] #[]):=by obtain⟨q,rfl⟩:=HW.out;exact d5
  have d3':wr.cell? (aq rb 3)=some (.slice pn L.length cn):=by obtain⟨q,rfl⟩:=HW.out;exact d3
  by_cases hlt:j<L.length
  ·have aR:(j:Int)<(L.length:Int):=by omega
   obtain⟨bl,cap,hv,Tf,kM,_,_⟩:=HN1.nr.form (by omega);simp only[D6,true_and]at hv;obtain⟨rfl,rfl⟩:=hv;have ce0:=HN1.nr.cells bl rfl j hlt (k+1) _ (Is (by rw[HN1.len j hlt];exact hk));have ce:wr.cell? (aq bl (j*16+(k+1)))=some (Iq ((ac L j).attr[k]?.getD 0)):=by obtain⟨q,rfl⟩:=HW.out;exact ce0
   clear ce0;obtain⟨x,hx⟩:=af ((ac L j).attr[k]?.getD 0);have HX:=qH<|hx;rw[hx]at ce;clear hx;have ce2:wr.cell? (aq bl (j*16+k+1))=some (Iq x):=ce;by_cases hxn:x=n
   ·have e1:(x==n)=true:=by simpa using hxn
    have HT:=qH<|any_at L k j n hlt (by rw[HX.out];exact e1);go_wp2_with fail;go_quiet(first|(go_at_fn g;exact Calls.quiet_of_same (HQ.2 _ _ _)));go_wp2;go_ret;exact⟨by rw[HT.out];rfl,dD B2 _⟩
   ·have e1:(x==n)=false:=by simpa using hxn
    have HF2:=qH<|any_take_succ L k j n hlt HF (by rw[HX.out];exact e1);go_wp2_with fail;go_quiet(first|(go_at_fn g;exact Calls.quiet_of_same (HQ.2 _ _ _)));go_wp2;go_roundw;case rel=>exact⟨j+1,by go_num,by omega,HF2,by obtain⟨q,rfl⟩:=HW.out;exact⟨q+nq,by simp_all⟩⟩
    case measure=>simp[intOf];omega
  ·have aR:¬(j:Int)<(L.length:Int):=by omega
   obtain rfl:j=L.length:=by omega
   have HT:Hid (fV L k n=false):=by have:=HF.out;rw[l6]at this;exact this
   go_wp2;go_ret;exact⟨by rw[HT.out];rfl,B2⟩
def wY(L:List Nd)(k:Nat)(n:Int):Bool:=sF k&&(n !=oe k)&&fV L k n
def F9(L:List Nd)(k:Nat)(n:Int)(rg tw:Addr):Value:=if nW k<n then aT rg else if wY L k n=true then aT tw else .nilIface
def pB(L:List Nd)(j k:Nat)(n:Int):List Nd:=if nW k<n\/wY L k n=true then L else L.modify j fun d=>{d with attr:=d.attr.set k n}
def yH(w w':World)(e:Ending)(rb B:Nat)(s:ByteArray)(i:Nat)(av nv fv:Value)(L:List Nd)(KV:Nat->Value)(j k:Nat)(n:Int)(rg tw:Addr)(bl:Nat):Prop:=
 w.grownBy w' (some bl)/\e=Rw (F9 L k n rg tw)/\PR w' rb s i av nv fv/\PN w' B nv (pB L j k n) KV/\Fr B rb w w'/\B<=w'.heap.size
theorem U8(rb B:Nat)(s:ByteArray)(i:Nat)(av fv:Value)(L:List Nd)(KV:Nat->Value)(bl cap j k:Nat)(hk:k<12)(n:Int)(rg tw:Addr)(w:World)(h:PR w rb s i av (Sq bl L.length cap) fv)(hn:PN w B (Sq bl L.length cap) L KV)(hL:L.length<=100000)(hj:j<L.length)(Wx:rb<B)(hB:B<=w.heap.size)
 (hg3:3<B) (hg4:4<B) (hn3:3≠rb) (_m:4≠rb)
 (er:w.cell? (aq 4 0)=some (aT rg)) (et:w.cell? (aq 3 0)=some (aT tw)):
 Cw 196 #[Pq rb,.pointer (some (aq bl (j*16))),vh k,Iq n] w fun e w'=>yH w w' e rb B s i av (Sq bl L.length cap) fv L KV j k n rg tw bl:=by
 have HQ:=qH<|in_at k hk;have HS:Hid (∀W,PR W rb s i av (Sq bl L.length cap) fv->PN W B (Sq bl L.length cap) L KV->Cw 226 #[Pq rb,vh k,Iq n] W fun e w'=>e=Rw (.bool (fV L k n))/\Bt W w'):=fun W h1 h2=>sG rb B s i av _ fv L KV k hk n W h1 h2 hL;unfold vh at HS⊢;have HD:Hid (F9 L k n rg tw=if nW k<n then aT rg else if(sF k&&(n !=oe k)&&fV L k n)=true then aT tw else .nilIface):=rfl;have HL:Hid (pB L j k n=if nW k<n\/(sF k&&(n !=oe k)&&fV L k n)=true then L else L.modify j fun d=>{d with attr:=d.attr.set k n}):=rfl;obtain⟨g,hg⟩:=af (zh k);obtain⟨a0,h0⟩:=af (iz k);obtain⟨a1,h1⟩:=af (oS k);obtain⟨a2,h2⟩:=af (nW k);obtain⟨a3,h3⟩:=af (oe k);obtain⟨a4,h4⟩:=af (sF k);obtain⟨hh,h5⟩:=af (fV L k n);rw[hg,h0,h1,h2,h3,h4]at HS⊢;rw[h5]at HS;rw[h2,h3,h4,h5]at HD HL;rw[hg]at HQ;have eg:=HQ.1;clear h0 h1 h2 h3 h4 h5 hg;have HR:=qH<|h;have HN:=qH<|hn;have hBl:=(hn.nr.row.choose_spec.lt bl rfl).1;clear h hn;have er':w.cell? (aq 4 0)=some (.iface 371 (.pointer (some rg))):=er;have et':w.cell? (aq 3 0)=some (.iface 371 (.pointer (some tw))):=et;have ER:=qH<|er';have ET:=qH<|et';clear er et er' et';obtain⟨bx,sU⟩:∃z:Obj,(.cells #[.string a0,.int .u64 (a1:Int),Iq a2,Iq a3,.bool a4,.func (.func g) #[] #[]] 195)=z:=⟨_,rfl⟩;have BA:Hid (Bt w (w.alloc (.cells #[.string a0,.int .u64 (a1:Int),Iq a2,Iq a3,.bool a4,.func (.func g) #[] #[]] 195))):=(ag _ _).alloc (ae _) _;clear sU bx;have hbl:=(HN.nr.row.choose_spec.lt bl rfl).2;have TC:3<w.heap.size:=by omega
 have hl4:4<w.heap.size:=by omega
 have OH:rb<w.heap.size:=by omega
 have ce:=HN.nr.cells bl rfl j hj (k+1) _ (Is (by rw[HN.len j hj];exact hk));obtain⟨x0,Aw⟩:=af ((ac L j).attr[k]?.getD 0);rw[Aw]at ce;have ce2:w.cell? (aq bl (j*16+k+1))=some (Iq x0):=ce;have cf:w.frozen? (aq bl (j*16+(k+1)))=false:=HN.nr.frz rfl _;have cf2:w.frozen? (aq bl (j*16+k+1))=false:=HN.nr.frz rfl _;clear Aw;have FIN:Hid (∀(W':World),Bt w W'->¬a2<n->(a4&&(n !=a3)&&hh)=false->yH w (W'.setCell (aq bl (j*16+(k+1))) (Iq n)) (.returned .nilIface) rb B s i av (Sq bl L.length cap) fv L KV j k n rg tw bl):=fun W' hb c1 c2=>by
  have YA:=HN.up (Up.below (B:=B) hb);refine⟨gr_trans (lr hb) (fw W' bl _ _),by rw[HD.out,if_neg c1,c2];rfl,PR.far (HR.below hb) (fw W' bl _ _) (fun q e=>by grind) Wx,?_,(Fr.below hb hB).trans (Fr.own (fw W' bl _ _) (aH hB hb.size) (fun q e=>by grind)),?_⟩;·rw[HL.out,if_neg (by grind)];have:=YA.setAttr hj hk n;omega
  ·have:=hb.size;simp;omega
 have _U:Hid (∀(o:Obj),¬a2<n->(a4&&(n !=a3)&&hh)=false->yH w ((w.setCell (aq bl (j*16+(k+1))) (Iq n)).alloc o) (.returned .nilIface) rb B s i av (Sq bl L.length cap) fv L KV j k n rg tw bl):=fun o c1 c2=>by obtain⟨e0,e1,e2,e3,e4,e5⟩:=FIN w (ag _ _) c1 c2;have hb:Below (w.setCell (aq bl (j*16+(k+1))) (Iq n)).heap.size (w.setCell (aq bl (j*16+(k+1))) (Iq n)) ((w.setCell (aq bl (j*16+(k+1))) (Iq n)).alloc o):=(ag _ _).alloc (ae _) _;exact⟨gr_trans e0 (lr hb),e1,e2.below hb,e3.up (Up.below hb),e4.trans (Fr.below hb e5),aH e5 hb.size⟩
 have KEP:Hid (∀(W':World),Bt w W'->(a2<n\/(a4&&(n !=a3)&&hh)=true)->yH w W' (.returned (F9 L k n rg tw)) rb B s i av (Sq bl L.length cap) fv L KV j k n rg tw bl):=fun W' hb c1=>
  ⟨lr hb,rfl,HR.below hb,by rw[HL.out,if_pos c1];exact HN.up (Up.below hb),Fr.below hb hB,aH hB hb.size⟩;have er:=ER.out;have et:=ET.out;by_cases c1:a2<n
 ·have HV:Hid (F9 L k n rg tw=.iface 371 (.pointer (some rg))):=by show _=_;rw[HD.out,if_pos c1];rfl
  have d1:=decide_eq_true c1;go_enter func196,ntmps196;go_wp2;go_ret;have:=KEP _ BA (.inl c1);rw[HV.out]at this;exact this
 ·have d1:=decide_eq_false c1;cases ha4:a4 with
  |false=>subst ha4;go_enter func196,ntmps196;go_wp2_with(first|(go_at_fn g;refine(HQ.2 _ _ _).mono ?_;rintro e w2 ⟨rfl,hw⟩;obtain rfl:=hw.symm));go_ret;exact _U _ (by omega) rfl
  |true=>
   subst ha4;by_cases c2:n=a3
   ·subst c2;have e2:(n !=n)=false:=by simp
    have e2':(n==n)=true:=by simp
    go_enter func196,ntmps196;go_wp2_with(first|(go_at_fn g;refine(HQ.2 _ _ _).mono ?_;rintro e w2 ⟨rfl,hw⟩;obtain rfl:=hw.symm));go_ret;exact _U _ (by omega) (by grind)
   ·have e2:(n !=a3)=true:=by simpa using c2
    have e2':(n==a3)=false:=by simpa using c2
    have CS:=qH<|HS _ (HR.below BA) (HN.up (Up.below BA));go_enter func196,ntmps196;go_wp2_with fail;refine CS.mono ?_;rintro e w2 ⟨rfl,dE⟩;have HB2:=qH<|BA.trans (dE.mono (by simp));have d5:w2.cell? (aq w.heap.size 5)=some (.func (.func g) #[] #[]):=(dE.cell (p:=(aq w.heap.size 5)) (by simp)).trans (by simp_all);have et2:=(HB2.cell (p:=(aq 3 0)) TC).trans et;have ceb:=(HB2.cell (p:=(aq bl (j*16+(k+1)))) hbl).trans ce;have cfb:=(HB2.frozen (p:=(aq bl (j*16+(k+1)))) hbl).trans cf;clear dE CS et er ce ce2 cf cf2;cases RT:hh with
    |true=>
     subst RT;have HV:Hid (F9 L k n rg tw=.iface 371 (.pointer (some tw))):=by show _=_;rw[HD.out,if_neg (by omega),if_pos (by grind)];rfl
     go_wp2;go_ret;have:=KEP _ HB2 (.inr (by grind));rw[HV.out]at this;exact this
    |false=>subst RT;go_wp2_with(first|(go_at_fn g;refine(HQ.2 _ _ _).mono ?_;rintro e w3 ⟨rfl,hw⟩;obtain rfl:=hw.symm));go_ret;exact FIN _ HB2 (by omega) (by grind)
def dR(name:ByteArray)(kind:Nat):Nat->Nat->Option Nat
 |0,_=>none
 |f+1,j=>if iz j=name/\ofK (oS j) kind=true then some j else dR name kind f (j+1)
def vD:Value:=.agg #[.string ⟨#[]⟩,.int .u64 0,Iq 0,Iq 0,.bool false,.nilFunc]
def tG(name:ByteArray)(kind:Nat)(ws:List ByteArray)(no tw:Addr):Value:=match dR name kind 12 0 with
 |none=>.tuple #[vD,aT no]
 |some j=>if 0<=aJ ws name 0 then .tuple #[vD,aT tw]else .tuple #[vh j,.nilIface]
theorem kH{fn:Func}{p u}{ty}(h:fn.results=#[.cell p ty,.tmp u])  tmps   P   w   g   cs 
 (hp:tmps.getD p undef=Pq g) (hl:(loadVar ty (aq g 0)).run P w=.ok (.agg cs) w):
 (results fn tmps).run P w=.ok (.tuple #[.agg cs,tmps.getD u undef]) w:=by rw[results_cell_tmp h,hp];simp[asAddr,hl]
theorem Du{W:World}{b}{T}{o0 o1 o2 o3 o4 o5}(h:W.heap[b]?=some (.cells #[o0,o1,o2,o3,o4,o5] T (0,0)))  v0 v1 v2 v3 v4 v5  :
 ((((((W.setCell (aq b 0) v0).setCell (aq b 1) v1).setCell (aq b 2) v2).setCell (aq b 3) v3).setCell (aq b 4) v4).setCell (aq b 5) v5).heap[b]?=some (.cells #[v0,v1,v2,v3,v4,v5] T (0,0)):=
 heap_setCell_same _ b 5 _ T _ (heap_setCell_same _ b 4 _ T _ (heap_setCell_same _ b 3 _ T _ (heap_setCell_same _ b 2 _ T _ (heap_setCell_same _ b 1 _ T _ (heap_setCell_same _ b 0 _ T _ h)))))
theorem E6(X:World):X.drew.heap=X.heap:=rfl
theorem xW{W:World}{b}{T}{o0 o1 o2 o3 o4 o5}(h:W.heap[b]?=some (.cells #[o0,o1,o2,o3,o4,o5] T (0,0)))  v0 v1 v2 v3 v4 v5  :
 (((((((W.setCell (aq b 0) v0).setCell (aq b 1) v1).setCell (aq b 2) v2).setCell (aq b 3) v3).setCell (aq b 4) v4).setCell (aq b 5) v5).drew).heap[b]?=some (.cells #[v0,v1,v2,v3,v4,v5] T (0,0)):=by grind[E6,Du]
theorem qX{B}{w w'}(h:Below B w w'):Below B w w'.drew:=⟨h.os,h.tape,h.output,h.size,h.block⟩
theorem nJ{B b}{W W'}(h:Below B W W')(hb:B<=b)  v0 v1 v2 v3 v4 v5  :Below B W ((((((W'.setCell (aq b 0) v0).setCell (aq b 1) v1).setCell (aq b 2) v2).setCell (aq b 3) v3).setCell (aq b 4) v4).setCell (aq b 5) v5):=
 ft (ft (ft (ft (ft (ft h hb v0) hb v1) hb v2) hb v3) hb v4) hb v5
theorem kd_four  j  (hj:j<12):oS j=127\/oS j=3\/oS j=8\/oS j=32:=by
 have:j=0\/j=1\/j=2\/j=3\/j=4\/j=5\/j=6\/j=7\/j=8\/j=9\/j=10\/j=11:=by omega
 rcases this with rfl|rfl|rfl|rfl|rfl|rfl|rfl|rfl|rfl|rfl|rfl|rfl<;>decide
theorem tC.below{W W'}{v}{ws}(h:tC W v ws)(hb:Bt W W'):tC W' v ws:=by
 obtain⟨p,c,rfl,rfl|⟨blk,rfl,h1,h2⟩⟩:=h;·exact⟨p,c,rfl,.inl rfl⟩
 ·exact⟨_,c,rfl,.inr ⟨blk,rfl,zz007 h1 hb.size,fun j hj=>(hb.cell (p:=(aq blk (0+j))) h1).trans (h2 j hj)⟩⟩
theorem attributeOf_any(rb ab:Nat)(s:ByteArray)(i:Nat)(nv fv:Value)(kind:Nat)(name:ByteArray)(v:Value)(ws:List ByteArray)(no tw:Addr)(w:World)(h:PR w rb s i (Sq ab 12 12) nv fv)(ht:MO w ab)(hk:kind<7)(hv:tC w v ws)(hn:ws.length<=1099511627776)
 (en:w.cell? (aq 5 0)=some (aT no)) (et:w.cell? (aq 3 0)=some (aT tw)):
 Cw 194 #[Pq rb,Iq (kind:Int),.string name,v] w fun e w'=>e=Rw (tG name kind ws no tw)/\Bt w w':=by
 have EN:Hid (w.cell? (aq 5 0)=some (.iface 371 (.pointer (some no)))):=en;have ET:Hid (w.cell? (aq 3 0)=some (.iface 371 (.pointer (some tw)))):=et;have hl5:5<w.heap.size:=rS w _ en;have TC:3<w.heap.size:=rS w _ et;have HT:=qH<|ht;have HX:=qH<|hv;have c2:=h.c2;have oj:=h.lt;have zq:=ht.lt;have HI:=qH<|fun n m mo wi sg fv w hm=>O_ n m kind mo wi sg fv w hm hk;have HV:Hid (∀r,dR name kind 12 0=r->tG name kind ws no tw=match r with
  |none=>.tuple #[vD,aT no]
  |some j=>if 0<=aJ ws name 0 then .tuple #[vD,aT tw]else .tuple #[vh j,.nilIface]):=fun r hr=>by grind[tG]
 obtain⟨pv,cv,rfl,_⟩:∃p c,v=.slice p ws.length c/\True:=by obtain⟨p,c,e,_⟩:=hv;grind
 clear h ht hv en et;go_enter func194,ntmps194;go_wp2;go_loopw[17] (fun u wr=>∃j:Nat,u=Iq (j:Int)/\j<=12/\Hid (dR name kind 12 0=dR name kind (12-j) j)/\Hid (Bt w wr)/\Hid (wr.heap[w.heap.size]?=some (.cells #[.string ⟨#[]⟩,.int .u64 0,Iq 0,Iq 0,.bool false,.nilFunc] 195 (0,0)))) (fun u _=>12-(intOf u).toNat);case atStart=>exact⟨0,rfl,by omega,rfl,(ag _ _).alloc (ae _) _,heap_alloc_new _ _⟩
 case round=>
  obtain⟨j,rfl,hj,HS,HB,HR⟩:=hrel;have hrs:=(az.1 HR).1;have en:=(HB.cell (p:=(aq 5 0)) hl5).trans EN;by_cases hlt:j<12
  ·have aR:(j:Int)<12:=by omega
   have hT:=HT.fr (Fr.below (r:=w.heap.size) HB (ae _)) zq (by omega);obtain⟨t0,t1,t2,t3,t4,t5⟩:=hT.at hlt;have hT2:=hT.lt;have HK4:=qH<|kd_four j hlt;have Mt:Hid (dR name kind 12 0=if iz j=name/\ofK (oS j) kind=true then some j else dR name kind (12-(j+1)) (j+1)):=by show _=_;rw[HS.out,show 12-j=(12-(j+1))+1 by omega];rfl
   have vW:Hid (vh j=.agg #[.string (iz j),.int .u64 (oS j:Int),Iq (nW j),Iq (oe j),.bool (sF j),.func (.func (zh j)) #[] #[]]):=rfl;obtain⟨g,hg⟩:=af (zh j);obtain⟨a0,h0⟩:=af (iz j);obtain⟨a1,h1⟩:=af (oS j);obtain⟨a2,h2⟩:=af (nW j);obtain⟨a3,h3⟩:=af (oe j);obtain⟨a4,h4⟩:=af (sF j);rw[h0]at t0 Mt;rw[h1]at t1 HK4 Mt;rw[h2]at t2;rw[h3]at t3;rw[h4]at t4;rw[hg]at t5;rw[h0,h1,h2,h3,h4,hg]at vW;clear h0 h1 h2 h3 h4 hg hT;by_cases e0:a0=name;·subst e0;have CI:Hid (∀W,Cw 222 #[.agg #[.string a0,.int .u64 (a1:Int),Iq a2,Iq a3,.bool a4,.func (.func g) #[] #[]],Iq (kind:Int)] W fun e w'=>e=Rw (.bool (ofK a1 kind))/\Bt W w'):=fun W=>HI _ _ _ _ _ _ _ HK4;obtain⟨ok,Aq⟩:=af (ofK a1 kind);rw[Aq]at CI;rw[Aq]at Mt;clear Aq;go_wp2_with fail;refine(CI _).mono ?_;rintro e w2 ⟨rfl,dE⟩;have HB2:=qH<|(HB.alloc (Nat.le_of_lt hrs) _).trans (dE.mono (by simp;omega));have HR2:=qH<|(dE.block _ (by simp;omega)).trans ((heap_alloc_old _ _ hrs).trans HR);have Xf:Hid (w2.heap[wr.heap.size]?=some (.cells #[.string a0,.int .u64 (a1:Int),Iq a2,Iq a3,.bool a4,.func (.func g) #[] #[]] 195 (0,0))):=(dE.block _ (by simp)).trans (heap_alloc_new _ _);clear dE t0 t1 t2 t3 t4 t5 en;cases ok with
    |false=>
     have Sv:Hid (dR a0 kind 12 0=dR a0 kind (12-(j+1)) (j+1)):=by show _=_;rw[Mt.out,if_neg (by simp)]
     clear Mt;go_wp2;go_roundw;case rel=>grind
     case measure=>simp[intOf];omega
    |true=>
     have Sv:Hid (dR a0 kind 12 0=some j):=by show _=_;rw[Mt.out,if_pos (by simp)]
     clear Mt;have CC:=qH<|contains_any ws a0 _ w2 (HX.below HB2) hn;by_cases hf:0<=aJ ws a0 0
     ·have Js:Hid (tG a0 kind ws no tw=.tuple #[vD,aT tw]):=by show _=_;rw[HV _ Sv.out];simp only[if_pos hf]
      rw[decide_eq_true hf]at CC;have et:=(HB2.cell (p:=(aq 3 0)) TC).trans ET;have hr2:=HR2.out;have zhq:=(az.1 hr2).1;have z0:w2.cell? (aq w.heap.size 0)=some (.string ⟨#[]⟩):=by simp[World.cell?,hr2]
      have z1:w2.cell? (aq w.heap.size 1)=some (.int .u64 0):=by simp[World.cell?,hr2]
      have z2:w2.cell? (aq w.heap.size 2)=some (Iq 0):=by simp[World.cell?,hr2]
      have z3:w2.cell? (aq w.heap.size 3)=some (Iq 0):=by simp[World.cell?,hr2]
      have z4:w2.cell? (aq w.heap.size 4)=some (.bool false):=by simp[World.cell?,hr2]
      have z5:w2.cell? (aq w.heap.size 5)=some .nilFunc:=by simp[World.cell?,hr2]
      have zf:∀q,w2.frozen? (aq w.heap.size q)=false:=fun q=>frozen_of_row _ _ _ _ _ hr2;clear hr2;go_wp2_with fail;refine CC.mono ?_;rintro e w3 ⟨rfl,TS⟩;obtain rfl:=TS.symm;go_wp2_with fail;have hg3:3≠w.heap.size:=by omega
      go_region;all_goals go_wp2;refine bodyPost_ret (kH rfl _ _ _ w.heap.size _ rfl (run_loadVar_row _ _ _ _ _ _ _ (xW HR2 _ _ _ _ _ _) underlying195 rfl (by kernel_rfl))) rfl ?_;exact⟨by rw[Js.out];rfl,qX (nJ HB2 (ae _) _ _ _ _ _ _)⟩
     ·have Js:Hid (tG a0 kind ws no tw=.tuple #[vh j,.nilIface]):=by show _=_;rw[HV _ Sv.out];simp only[if_neg hf]
      rw[decide_eq_false hf]at CC;have hr2:=HR2.out;have zhq:=(az.1 hr2).1;have z0:w2.cell? (aq w.heap.size 0)=some (.string ⟨#[]⟩):=by simp[World.cell?,hr2]
      have z1:w2.cell? (aq w.heap.size 1)=some (.int .u64 0):=by simp[World.cell?,hr2]
      have z2:w2.cell? (aq w.heap.size 2)=some (Iq 0):=by simp[World.cell?,hr2]
      have z3:w2.cell? (aq w.heap.size 3)=some (Iq 0):=by simp[World.cell?,hr2]
      have z4:w2.cell? (aq w.heap.size 4)=some (.bool false):=by simp[World.cell?,hr2]
      have z5:w2.cell? (aq w.heap.size 5)=some .nilFunc:=by simp[World.cell?,hr2]
      have zf:∀q,w2.frozen? (aq w.heap.size q)=false:=fun q=>frozen_of_row _ _ _ _ _ hr2;have ha2:=Xf.out;have y0:w2.cell? (aq wr.heap.size 0)=some (.string a0):=by simp[World.cell?,ha2]
      have y1:w2.cell? (aq wr.heap.size 1)=some (.int .u64 (a1:Int)):=by simp[World.cell?,ha2]
      have y2:w2.cell? (aq wr.heap.size 2)=some (Iq a2):=by simp[World.cell?,ha2]
      have y3:w2.cell? (aq wr.heap.size 3)=some (Iq a3):=by simp[World.cell?,ha2]
      have y4:w2.cell? (aq wr.heap.size 4)=some (.bool a4):=by simp[World.cell?,ha2]
      have y5:w2.cell? (aq wr.heap.size 5)=some (.func (.func g) #[] #[]):=by simp[World.cell?,ha2]
      clear hr2 ha2;go_wp2_with fail;refine CC.mono ?_;rintro e w3 ⟨rfl,TS⟩;obtain rfl:=TS.symm;go_wp2;refine bodyPost_ret (kH rfl _ _ _ w.heap.size _ rfl (run_loadVar_row _ _ _ _ _ _ _ (Du HR2 _ _ _ _ _ _) underlying195 rfl (by kernel_rfl))) rfl ?_;exact⟨by rw[Js.out,vW.out];rfl,nJ HB2 (ae _) _ _ _ _ _ _⟩
   ·have e1:=Gh e0;have Sv:Hid (dR name kind 12 0=dR name kind (12-(j+1)) (j+1)):=by show _=_;rw[Mt.out,if_neg (fun h=>e0 h.1)]
    clear Mt;go_wp2;go_roundw;case rel=>exact⟨j+1,by go_num,by omega,Sv,HB.alloc (by omega) _,(heap_alloc_old _ _ hrs).trans HR⟩
    case measure=>simp[intOf];omega
  ·obtain rfl:j=12:=by omega
   have Sv:Hid (dR name kind 12 0=none):=HS.out;have Js:Hid (tG name kind ws no tw=.tuple #[vD,aT no]):=by show _=_;rw[HV _ Sv.out]
   have hr2:=HR.out;have z0:wr.cell? (aq w.heap.size 0)=some (.string ⟨#[]⟩):=by simp[World.cell?,hr2]
   have z1:wr.cell? (aq w.heap.size 1)=some (.int .u64 0):=by simp[World.cell?,hr2]
   have z2:wr.cell? (aq w.heap.size 2)=some (Iq 0):=by simp[World.cell?,hr2]
   have z3:wr.cell? (aq w.heap.size 3)=some (Iq 0):=by simp[World.cell?,hr2]
   have z4:wr.cell? (aq w.heap.size 4)=some (.bool false):=by simp[World.cell?,hr2]
   have z5:wr.cell? (aq w.heap.size 5)=some .nilFunc:=by simp[World.cell?,hr2]
   have zf:∀q,wr.frozen? (aq w.heap.size q)=false:=fun q=>frozen_of_row _ _ _ _ _ hr2;have hg5:5≠w.heap.size:=by omega
   clear hr2 HS;go_wp2_with fail;go_region;all_goals go_wp2;refine bodyPost_ret (kH rfl _ _ _ w.heap.size _ rfl (run_loadVar_row _ _ _ _ _ _ _ (xW HR _ _ _ _ _ _) underlying195 rfl (by kernel_rfl))) rfl ?_;exact⟨by rw[Js.out];rfl,qX (nJ HB (ae _) _ _ _ _ _ _)⟩
def fu(E:Nat->Addr):jA->Value
 |none=>.nilIface
 |some (c,p)=>cD (p:Int) (aT (E c))
structure Vx(W:World)(rb ab B:Nat)(E:Nat->Addr):Prop where
 tab:MO W ab
 lo:12<=rb
 rbB:rb<B
 abB:ab<B
 ne:ab≠rb
 le:B<=W.heap.size
 g2:W.cell? (aq 9 0)=some (aT (E 2))
 g3:W.cell? (aq 1 0)=some (aT (E 3))
 g4:W.cell? (aq 2 0)=some (aT (E 4))
 g5:W.cell? (aq 3 0)=some (aT (E 5))
 g6:W.cell? (aq 4 0)=some (aT (E 6))
 g7:W.cell? (aq 5 0)=some (aT (E 7))
theorem Vx.fr{W W'}{rb ab B}{E}(h:Vx W rb ab B E)(f:Fr B rb W W'):Vx W' rb ab B E:=by have lo:=h.lo;have rB:=h.rbB;exact⟨h.tab.fr f h.abB h.ne,h.lo,h.rbB,h.abB,h.ne,aH h.le f.size,f.cell h.g2 (by grind) (by grind),f.cell h.g3 (by grind) (by grind),f.cell h.g4 (by grind) (by grind),f.cell h.g5 (by grind) (by grind),f.cell h.g6 (by grind) (by grind),f.cell h.g7 (by grind) (by grind)⟩
def jU(er:jA)(eo:Option Nat)(p:Nat):jA:=match eo with
 |none=>er
 |some c=>jN er c p
def ZU(E:Nat->Addr):Option Nat->Value
 |none=>.nilIface
 |some c=>aT (E c)
theorem keep_all  rb   s   i   av nv   E   er   eo  (p:Nat)  w  (h:PR w rb s i av nv (fu E er)):
 Cw 110 #[Pq rb,ZU E eo,Iq (p:Int)] w fun e w'=>e=Rw (.tuple #[])/\PR w' rb s i av nv (fu E (jU er eo p))/\w.grownBy w' (some rb):=by
 cases eo with
 |none=>exact Pf rb s i av nv _ p w h
 |some c=>
  cases er with
  |none=>exact Fv rb s i av nv (E c) p w h
  |some f=>obtain⟨c2,p2⟩:=f;exact Fw rb s i av nv (E c) (E c2) p p2 w h
structure F2(r b:Nat)(W W':World):Prop where
 os:W'.os=W.os
 tape:W'.tape=W.tape
 output:W'.output=W.output
 size:W.heap.size<=W'.heap.size
 block:∀k,k<W.heap.size->k≠r->k≠b->W'.heap[k]?=W.heap[k]?
theorem F2.trans{r b}{W W1 W2}(h:F2 r b W W1)(k:F2 r b W1 W2):F2 r b W W2:=
 ⟨k.os.trans h.os,k.tape.trans h.tape,k.output.trans h.output,aH h.size k.size,fun q h1 h2 h3=>(k.block q (zz007 h1 h.size) h2 h3).trans (h.block q h1 h2 h3)⟩
theorem F2.left{r b}{W W'}(h:W.grownBy W' (some r)):F2 r b W W':=⟨h.os,h.tape,h.output,h.size,fun k h1 h2 h3=>h.block k h1 (by grind)⟩
theorem F2.right{r b}{W W'}(h:W.grownBy W' (some b)):F2 r b W W':=⟨h.os,h.tape,h.output,h.size,fun k h1 h2 h3=>h.block k h1 (by grind)⟩
theorem F2.below{r b}{W W'}(h:Bt W W'):F2 r b W W':=⟨h.os,h.tape,h.output,h.size,fun k h1 h2 h3=>h.block k h1⟩
theorem F2.fr{r b B}{W W'}(h:F2 r b W W')(hB:B<=W.heap.size)(hb:B<=b):Fr B r W W':=⟨h.os,h.tape,h.output,h.size,fun k h1 h2=>h.block k (by omega) h2 (by omega)⟩
def sa(name:ByteArray)(kind:Nat)(ws:List ByteArray):Option Nat:=match dR name kind 12 0 with
 |none=>some 7
 |some _=>if 0<=aJ ws name 0 then some 5 else none
def yJ(name:ByteArray)(kind:Nat):Nat:=(dR name kind 12 0).getD 0
def zY(L:List Nd)(k:Nat)(n:Int):Option Nat:=if nW k<n then some 6 else if wY L k n=true then some 5 else none
def P8(L:List Nd)(j:Nat)(er:jA)(at_:Nat)(t:ByteArray)(e j2 ix:Nat)(n:Int):Option Nat->Except Nat (Nat×jA×List Nd×ByteArray)
 |some c=>.ok (e,jU er (some c) at_,L,t)
 |none=>.ok (e,jU er (zY L ix n) j2,pB L j ix n,t)
def sx(s:ByteArray)(kind:Nat)(ws:List ByteArray)(L:List Nd)(j:Nat)(er:jA)(at_:Nat)(t:ByteArray)(i2:Nat):Except Nat (Nat×jA×List Nd×ByteArray):=
 if kD s (sk s i2) (run aP s (sk s i2))=true then .error (sk s i2)else P8 L j er at_ t (run aP s (sk s i2)) (sk s i2) (yJ t kind) (dv s (sk s i2) (run aP s (sk s i2)-sk s i2)) (sa t kind ws)
def eD(s:ByteArray)(kind:Nat)(ws:List ByteArray)(L:List Nd)(j i:Nat)(er:jA):Except Nat (Nat×jA×List Nd×ByteArray):=
 if run aB s (sk s i)=sk s i then .error (sk s i)
 else if a_ s (run aB s (sk s i)) 61=true then sx s kind ws L j er (sk s i) (s.extract (sk s i) (run aB s (sk s i))) (aD s (run aB s (sk s i)) 61)
 else .error (sk s (run aB s (sk s i)))
def MJ(w w':World)(e:Ending)(rb B bl:Nat)(E:Nat->Addr)(s:ByteArray)(av nv:Value)(KV:Nat->Value)(r:Except Nat (Nat×jA×List Nd×ByteArray)):Prop:=
 F2 rb bl w w'/\match r with
 |.error b=>e=.panicked [{v:=cD (b:Int) (aT (E 2)),recovered:=false}]
 |.ok (i,er,L,name)=>e=Rw (.string name)/\PR w' rb s i av nv (fu E er)/\PN w' B nv L KV
theorem DJ  name   kind  :∀f j k,dR name kind f j=some k->j<=k/\k<j+f
 |0,j,k,h=>by cases h
 |f+1,j,k,h=>by
  unfold dR at h;split at h;·grind
  ·have:=DJ name kind f (j+1) k h;omega
theorem U7  L   k   n   E  :F9 L k n (E 6) (E 5)=ZU E (zY L k n):=by
 unfold F9 zY;split;·rfl
 ·split<;>rfl
theorem M5{t}{kind c}{ws}(E:Nat->Addr)(h:sa t kind ws=some c):tG t kind ws (E 7) (E 5)=.tuple #[vD,aT (E c)]:=by grind[sa,tG,dR,aJ]
theorem M4{t}{kind}{ws}(E:Nat->Addr)(h:sa t kind ws=none):yJ t kind<12/\tG t kind ws (E 7) (E 5)=.tuple #[vh (yJ t kind),.nilIface]:=by
 unfold sa at h;unfold tG yJ;cases hs:dR t kind 12 0 with
 |none=>grind
 |some q=>
  rw[hs]at h;by_cases hf:0<=aJ ws t 0;·grind
  ·have:=DJ t kind 12 0 q hs;grind
theorem tC.f2{W W'}{v}{ws}{r b}(h:tC W v ws)(f:F2 r b W W')(hr:∀q,v.ownBlock=some q->q≠r/\q≠b):tC W' v ws:=by
 obtain⟨p,c,rfl,rfl|⟨blk,rfl,h1,h2⟩⟩:=h;·exact⟨p,c,rfl,.inl rfl⟩
 ·have:=hr blk rfl;exact⟨_,c,rfl,.inr ⟨blk,rfl,zz007 h1 f.size,fun j hj=>(ba (f.block blk h1 this.1 this.2)).trans (h2 j hj)⟩⟩
theorem readAttribute_any(rb ab B:Nat)(E:Nat->Addr)(s:ByteArray)(i:Nat)(er:jA)(L:List Nd)(KV:Nat->Value)(bl cap j kind:Nat)(v:Value)(ws:List ByteArray)(w:World)(env:Vx w rb ab B E)
 (h:PR w rb s i (Sq ab 12 12) (Sq bl L.length cap) (fu E er)) (hn:PN w B (Sq bl L.length cap) L KV) (hL:L.length<=100000) (hj:j<L.length) (hkd:(ac L j).kind=kind) (Wu:kind<7)
 (hv:tC w v ws) (hvr:∀q,v.ownBlock=some q->q≠rb/\q≠bl) (hwn:ws.length<=1099511627776) (hs:s.size<=1073741824) (hi:i<=s.size):
 Cw 151 #[Pq rb,.pointer (some (aq bl (j*16))),v] w fun e w'=>MJ w w' e rb B bl E s (Sq ab 12 12) (Sq bl L.length cap) KV (eD s kind ws L j i er):=by
 obtain⟨av,RM⟩:=af (Sq ab 12 12);obtain⟨nv,pQ⟩:=af (Sq bl L.length cap);have qm:=env.rbB;have ri:=env.lo;have CW:=pi rb s i (Sq ab 12 12) (Sq bl L.length cap) (fu E er) w h (by omega) hi;obtain⟨at_,dm⟩:=af (sk s i);have To:at_<=s.size:=by rw[<-dm];exact ng s i hi
 obtain⟨k,hk⟩:=af (run aB s at_);have cZ:k<=s.size:=by rw[<-hk];exact lM _ _ _ To
 have KC:at_<=k:=by rw[<-hk];exact oa _ _ _
 obtain⟨t,ht⟩:=af (s.extract at_ k);rw[dm,hk,ht]at CW;have HP:Hid (eD s kind ws L j i er=if k=at_ then .error at_ else if a_ s k 61=true then sx s kind ws L j er at_ t (aD s k 61)else .error (sk s k)):=by show _=_;unfold eD;rw[dm,hk,ht]
 have VE:=qH<|CW;have HEV:=qH<|env;have HN:=qH<|hn;have HX:=qH<|hv;have eV:t.size=k-at_:=by rw[<-ht];simp;omega
 have Zy:=qH<|hkd;obtain⟨pv,cv,_s⟩:∃p c,v=.slice p ws.length c:=by obtain⟨p,c,e,_⟩:=hv;grind
 subst _s;by_cases OB:k=at_
 ·have GD:Hid (eD s kind ws L j i er=.error at_):=by show _=_;rw[HP.out,if_pos OB]
  have et:t.toList.isEmpty=true:=by
   rw[ByteArray.toList_eq];have:t.data.size=0:=by show t.size=0;omega
   simp[Xc this]
  have HT:Hid (∀W,W.cell? (aq 9 0)=some (aT (E 2))->Cw 61 #[Iq (at_:Int)] W fun e w'=>e=Rw (.iface 138 (.agg #[Iq (at_:Int),.iface 371 (.pointer (some (E 2)))]))/\w'=W):=fun W he=>fE _ W (E 2) he;go_enter func151,ntmps151;go_wp2_with fail;refine VE.mono ?_;rintro e w1 ⟨rfl,h1,g1⟩;have HG1:=qH<|g1;have HE1:=qH<|HEV.fr (Fr.grown g1 HEV.le);go_wp2_with fail;refine(HT _ HE1.g2).mono ?_;rintro e w2 ⟨rfl,hw⟩;obtain rfl:=hw.symm;go_wp2;refine⟨rfl,?_⟩;rw[GD.out];exact⟨F2.left HG1,rfl⟩
 ·have tq:Hid (eD s kind ws L j i er=if a_ s k 61=true then sx s kind ws L j er at_ t (aD s k 61)else .error (sk s k)):=by show _=_;rw[HP.out,if_neg OB]
  have et:t.toList.isEmpty=false:=by
   rw[ByteArray.toList_eq];have:t.data.size≠0:=by show t.size≠0;omega
   cases hd:t.data.toList with
   |nil=>grind
   |cons a r=>rfl
  go_enter func151,ntmps151;go_wp2_with fail;refine VE.mono ?_;rintro e w1 ⟨rfl,h1,g1⟩;have HG1:=qH<|g1;have HE1:=qH<|HEV.fr (Fr.grown g1 HEV.le);have HN1:=qH<|HN.up (Up.grown g1 qm);have HR1:=qH<|h1;have HX1:=qH<|HX.f2 (F2.left (b:=bl) g1) hvr;have ck:w1.cell? (aq bl (j*16))=some (Iq (kind:Int)):=by have:=HN1.nr.cells bl rfl j hj 0 _ (UJ _ _);rw[Zy.out]at this;exact this
  have CA:=qH<|attributeOf_any rb ab s k _ _ kind t _ ws (E 7) (E 5) w1 h1 HE1.tab Wu HX1 hwn HE1.g7 HE1.g5;go_wp2_with fail;refine CA.mono ?_;rintro e w2 ⟨rfl,dE⟩;have HF2:Hid (F2 rb bl w w2):=(F2.left HG1).trans (F2.below dE);have Gx:=qH<|HE1.fr (Fr.below dE HE1.le);have HN2:=qH<|HN1.up (Up.below dE);have HR2:=qH<|HR1.below dE;cases hao:sa t kind ws with
  |some c=>
   have HAO:=qH<|hao;have HAV:Hid (tG t kind ws (E 7) (E 5)=.tuple #[.agg #[.string ⟨#[]⟩,.int .u64 0,Iq 0,Iq 0,.bool false,.nilFunc],.iface 371 (.pointer (some (E c)))]):=M5 E hao;rw[HAV.out];have My:Hid (Bt w2 (w2.alloc (.cells #[.string ⟨#[]⟩,.int .u64 0,Iq 0,Iq 0,.bool false,.nilFunc] 195))):=(ag _ _).alloc (ae _) _;have CK:Hid (Cw 110 #[Pq rb,.iface 371 (.pointer (some (E c))),Iq (at_:Int)] (w2.alloc (.cells #[.string ⟨#[]⟩,.int .u64 0,Iq 0,Iq 0,.bool false,.nilFunc] 195)) fun e w'=>e=Rw (.tuple #[])/\PR w' rb s k (Sq ab 12 12) (Sq bl L.length cap) (fu E (jU er (some c) at_))/\(w2.alloc (.cells #[.string ⟨#[]⟩,.int .u64 0,Iq 0,Iq 0,.bool false,.nilFunc] 195)).grownBy w' (some rb)):=keep_all rb s k _ _ E er (some c) at_ _ (HR2.below My);go_wp2_with fail;refine CK.mono ?_;rintro e w4 ⟨rfl,h4,g4⟩;have vN:=qH<|h4;have HF4:=qH<|HF2.trans ((F2.below My).trans (F2.left g4));have HE4:=qH<|(Gx.fr (Fr.below My Gx.le)).fr (Fr.grown g4 (aH Gx.le My.size));have HN4:=qH<|(HN2.up (Up.below My)).up (Up.grown g4 qm);by_cases hq:a_ s k 61=true
   ·have qi:aD s k 61<=s.size:=fT (by omega) cZ;have CX:Hid (Cw 116 #[Pq rb,.int .u8 61] w4 fun e w'=>e=Rw (.tuple #[])/\PR w' rb s (aD s k 61) (Sq ab 12 12) (Sq bl L.length cap) (fu E (jU er (some c) at_))/\w4.grownBy w' (some rb)):=iL rb s k _ _ _ 61 w4 vN (by omega) cZ (by omega) hq;have iA:Hid (eD s kind ws L j i er=sx s kind ws L j er at_ t (aD s k 61)):=by show _=_;rw[tq.out,if_pos hq]
    obtain⟨i2,Ys⟩:=af (aD s k 61);rw[Ys]at CX iA qi;go_wp2_with fail;refine CX.mono ?_;rintro e w5 ⟨rfl,h5,g5⟩;have HF5:=qH<|HF4.trans (F2.left g5);have HE5:=qH<|HE4.fr (Fr.grown g5 HE4.le);have HN5:=qH<|HN4.up (Up.grown g5 qm);have Mo:=qH<|h5;by_cases hb:run aP s (sk s i2)=sk s i2\/sk s i2+6<run aP s (sk s i2)\/(sk s i2+1<run aP s (sk s i2)/\dS s (sk s i2)=48)
    ·have CN:=qH<|readNumber_no rb s i2 _ _ _ (E 2) w5 Mo (by omega) qi (by omega) HE5.g2 hb;have Mm:Hid (eD s kind ws L j i er=.error (sk s i2)):=by show _=_;rw[iA.out];unfold sx kD;rw[if_pos (decide_eq_true hb)]
     go_wp2_with fail;refine CN.mono ?_;rintro e w6 ⟨rfl,g6⟩;refine⟨rfl,?_⟩;rw[Mm.out];exact⟨HF5.trans (F2.left g6),rfl⟩
    ·have CN:=qH<|readNumber_yes rb s i2 _ _ _ w5 Mo (by omega) qi hb;have Mm:Hid (eD s kind ws L j i er=P8 L j er at_ t (run aP s (sk s i2)) (sk s i2) (yJ t kind) (dv s (sk s i2) (run aP s (sk s i2)-sk s i2)) ((some c))):=by show _=_;rw[iA.out];unfold sx kD;rw[if_neg (by simpa using hb),HAO.out]
     obtain⟨n,hn⟩:=af (dv s (sk s i2) (run aP s (sk s i2)-sk s i2));obtain⟨j2,L5⟩:=af (sk s i2);obtain⟨e2,Yp⟩:=af (run aP s j2);rw[hn,L5,Yp]at CN Mm;go_wp2_with fail;refine CN.mono ?_;rintro e w6 ⟨rfl,h6,g6⟩;have HF6:=qH<|HF5.trans (F2.left g6);have _8:=qH<|HN5.up (Up.grown g6 qm);have HR6:=qH<|h6;go_wp2;go_ret;show MJ _ _ _ _ _ _ _ _ _ _ _ _;rw[Mm.out];exact⟨HF6,rfl,HR6,_8⟩
   ·have _t:a_ s k 61=false:=by simpa using hq
    have CX:Hid (Cw 116 #[Pq rb,.int .u8 61] w4 fun e w'=>e=.panicked [{v:=cD (sk s k:Int) (aT (E 2)),recovered:=false}]/\w4.grownBy w' (some rb)):=jS rb s k _ _ _ (E 2) 61 w4 vN (by omega) cZ (by omega) _t (by omega) HE4.g2;have iA:Hid (eD s kind ws L j i er=.error (sk s k)):=by show _=_;rw[tq.out,if_neg hq]
    go_wp2_with fail;refine CX.mono ?_;rintro e w5 ⟨rfl,g5⟩;refine⟨rfl,?_⟩;rw[iA.out];exact⟨HF4.trans (F2.left g5),rfl⟩
  |none=>
   have HAO:=qH<|hao;obtain⟨BT,RM⟩:=M4 E hao;obtain⟨ix,hixe⟩:=af (yJ t kind);have HIX:=qH<|hixe;rw[hixe]at BT RM;obtain⟨a0,a1,a2,a3,a4,g,hrow⟩:∃a0 a1 a2 a3 a4 g,vh ix=.agg #[.string a0,.int .u64 ((a1:Nat):Int),Iq a2,Iq a3,.bool a4,.func (.func g) #[] #[]]:=⟨_,_,_,_,_,_,rfl⟩;have HROW:=qH<|hrow;rw[hrow]at RM;rw[RM];have My:Hid (Bt w2 (w2.alloc (.cells #[.string a0,.int .u64 (a1:Int),Iq a2,Iq a3,.bool a4,.func (.func g) #[] #[]] 195))):=(ag _ _).alloc (ae _) _;have CK:Hid (Cw 110 #[Pq rb,.nilIface,Iq (at_:Int)] (w2.alloc (.cells #[.string a0,.int .u64 (a1:Int),Iq a2,Iq a3,.bool a4,.func (.func g) #[] #[]] 195)) fun e w'=>e=Rw (.tuple #[])/\PR w' rb s k (Sq ab 12 12) (Sq bl L.length cap) (fu E (er))/\(w2.alloc (.cells #[.string a0,.int .u64 (a1:Int),Iq a2,Iq a3,.bool a4,.func (.func g) #[] #[]] 195)).grownBy w' (some rb)):=keep_all rb s k _ _ E er none at_ _ (HR2.below My);go_wp2_with fail;refine CK.mono ?_;rintro e w4 ⟨rfl,h4,g4⟩;have vN:=qH<|h4;have HF4:=qH<|HF2.trans ((F2.below My).trans (F2.left g4));have HE4:=qH<|(Gx.fr (Fr.below My Gx.le)).fr (Fr.grown g4 (aH Gx.le My.size));have HN4:=qH<|(HN2.up (Up.below My)).up (Up.grown g4 qm);have HB4:=qH<|(g4.block _ (by simp) (by simp;have:=HR2.lt;omega)).trans (heap_alloc_new _ _);have zpj:=HR2.lt;obtain⟨P3,hP3⟩:=af w2.heap.size;rw[hP3]at HB4;rw[hP3];have znl:P3≠rb:=by omega
   by_cases hq:a_ s k 61=true
   ·have qi:aD s k 61<=s.size:=fT (by omega) cZ;have CX:Hid (Cw 116 #[Pq rb,.int .u8 61] w4 fun e w'=>e=Rw (.tuple #[])/\PR w' rb s (aD s k 61) (Sq ab 12 12) (Sq bl L.length cap) (fu E (er))/\w4.grownBy w' (some rb)):=iL rb s k _ _ _ 61 w4 vN (by omega) cZ (by omega) hq;have iA:Hid (eD s kind ws L j i er=sx s kind ws L j er at_ t (aD s k 61)):=by show _=_;rw[tq.out,if_pos hq]
    obtain⟨i2,Ys⟩:=af (aD s k 61);rw[Ys]at CX iA qi;go_wp2_with fail;refine CX.mono ?_;rintro e w5 ⟨rfl,h5,g5⟩;have HF5:=qH<|HF4.trans (F2.left g5);have HE5:=qH<|HE4.fr (Fr.grown g5 HE4.le);have HN5:=qH<|HN4.up (Up.grown g5 qm);have Mo:=qH<|h5;have Rs:=qH<|(g5.block _ (az.1 HB4).1 (by simp;omega)).trans HB4;by_cases hb:run aP s (sk s i2)=sk s i2\/sk s i2+6<run aP s (sk s i2)\/(sk s i2+1<run aP s (sk s i2)/\dS s (sk s i2)=48)
    ·have CN:=qH<|readNumber_no rb s i2 _ _ _ (E 2) w5 Mo (by omega) qi (by omega) HE5.g2 hb;have Mm:Hid (eD s kind ws L j i er=.error (sk s i2)):=by show _=_;rw[iA.out];unfold sx kD;rw[if_pos (decide_eq_true hb)]
     go_wp2_with fail;refine CN.mono ?_;rintro e w6 ⟨rfl,g6⟩;refine⟨rfl,?_⟩;rw[Mm.out];exact⟨HF5.trans (F2.left g6),rfl⟩
    ·have CN:=qH<|readNumber_yes rb s i2 _ _ _ w5 Mo (by omega) qi hb;have Mm:Hid (eD s kind ws L j i er=P8 L j er at_ t (run aP s (sk s i2)) (sk s i2) (yJ t kind) (dv s (sk s i2) (run aP s (sk s i2)-sk s i2)) (none)):=by show _=_;rw[iA.out];unfold sx kD;rw[if_neg (by simpa using hb),HAO.out]
     obtain⟨n,hn⟩:=af (dv s (sk s i2) (run aP s (sk s i2)-sk s i2));obtain⟨j2,L5⟩:=af (sk s i2);obtain⟨e2,Yp⟩:=af (run aP s j2);rw[hn,L5,Yp]at CN Mm;go_wp2_with fail;refine CN.mono ?_;rintro e w6 ⟨rfl,h6,g6⟩;have HF6:=qH<|HF5.trans (F2.left g6);have HE6:=qH<|HE5.fr (Fr.grown g6 HE5.le);have _8:=qH<|HN5.up (Up.grown g6 qm);have HR6:=qH<|h6;have Vz:=qH<|(g6.block _ (az.1 Rs).1 (by simp;omega)).trans Rs;have RN:=Vz.out;have y0:w6.cell? (aq P3 0)=some (.string a0):=by simp[World.cell?,RN]
     have y1:w6.cell? (aq P3 1)=some (.int .u64 (a1:Int)):=by simp[World.cell?,RN]
     have y2:w6.cell? (aq P3 2)=some (Iq a2):=by simp[World.cell?,RN]
     have y3:w6.cell? (aq P3 3)=some (Iq a3):=by simp[World.cell?,RN]
     have y4:w6.cell? (aq P3 4)=some (.bool a4):=by simp[World.cell?,RN]
     have y5:w6.cell? (aq P3 5)=some (.func (.func g) #[] #[]):=by simp[World.cell?,RN]
     clear RN;have CS:Hid (Cw 196 #[Pq rb,.pointer (some (aq bl (j*16))),.agg #[.string a0,.int .u64 (a1:Int),Iq a2,Iq a3,.bool a4,.func (.func g) #[] #[]],Iq n] w6 fun e w'=>w6.grownBy w' (some bl)/\e=Rw (ZU E (zY L ix n))/\PR w' rb s e2 (Sq ab 12 12) (Sq bl L.length cap) (fu E (er))/\PN w' B (Sq bl L.length cap) (pB L j ix n) KV):=by have KG:=U8 rb B s e2 (Sq ab 12 12) (fu E (er)) L KV bl cap j ix BT n (E 6) (E 5) w6 HR6 _8 hL hj qm HE6.le (by omega) (by omega) (by omega) (by omega) HE6.g6 HE6.g5;rw[HROW.out]at KG;exact KG.mono fun e w' ⟨q1,q2,q3,q4,_⟩=>⟨q1,by rw[q2,U7],q3,q4⟩
     go_wp2_with fail;refine CS.mono ?_;rintro e w7 ⟨g7,rfl,h7,n7⟩;have HF7:=qH<|HF6.trans (F2.right g7);have HN7:=qH<|n7;have CK2:=qH<|keep_all rb s e2 _ _ E (er) (zY L ix n) j2 w7 h7;clear g7 h7 n7 CS y0 y1 y2 y3 y4 y5;go_wp2_with fail;refine CK2.mono ?_;rintro e w8 ⟨rfl,h8,g8⟩;have HR8:=qH<|h8;have HF8:=qH<|HF7.trans (F2.left g8);have HN8:=qH<|HN7.up (Up.grown g8 qm);clear h8 g8 CK2;go_wp2;go_ret;show MJ _ _ _ _ _ _ _ _ _ _ _ _;rw[Mm.out,HIX.out];exact⟨HF8,rfl,HR8,HN8⟩
   ·have _t:a_ s k 61=false:=by simpa using hq
    have CX:Hid (Cw 116 #[Pq rb,.int .u8 61] w4 fun e w'=>e=.panicked [{v:=cD (sk s k:Int) (aT (E 2)),recovered:=false}]/\w4.grownBy w' (some rb)):=jS rb s k _ _ _ (E 2) 61 w4 vN (by omega) cZ (by omega) _t (by omega) HE4.g2;have iA:Hid (eD s kind ws L j i er=.error (sk s k)):=by show _=_;rw[tq.out,if_neg hq]
    clear hq _t tq;go_wp2_with fail;refine CX.mono ?_;rintro e w5 ⟨rfl,g5⟩;refine⟨rfl,?_⟩;rw[iA.out];exact⟨HF4.trans (F2.left g5),rfl⟩
def nZ(s:ByteArray)(i:Nat)(er:jA)(L:List Nd):Except Nat (Nat×jA×List Nd):=if a_ s i 125=true then .ok (aD s i 125,er,L)else .error (sk s i)
def dF(s:ByteArray)(kind j:Nat):Nat->Nat->jA->List Nd->List ByteArray->Except Nat (Nat×jA×List Nd)
 |0,i,_,_,_=>.error i
 |f+1,i,er,L,ws=>match eD s kind ws L j i er with
  |.error b=>.error b
  |.ok (i2,eT,L2,t)=>if a_ s i2 59=true then dF s kind j f (aD s i2 59) eT L2 (ws++[t])else nZ s (aD s i2 59) eT L2
theorem rL  L   j k   n  :(pB L j k n).length=L.length:=by grind[pB]
theorem Lq  L   j k q   n  :(ac (pB L j k n) q).kind=(ac L q).kind:=by grind[pB,bA,ac,aY]
theorem Hk{s}{i c}(h:a_ s i c=true):aD s i c=sk s i+1:=by grind[a_,aD]
theorem Da{s}{kind}{ws}{L}{j i}{er}{i2}{eT}{L2}{t}(hi:i<=s.size)(h:eD s kind ws L j i er=.ok (i2,eT,L2,t)):i<i2/\i2<=s.size/\L2.length=L.length/\∀q,(ac L2 q).kind=(ac L q).kind:=by
 unfold eD at h;have h1:=rM s i;have h2:=ng s i hi;have h3:=oa aB s (sk s i);have h4:=lM aB s (sk s i) h2;split at h;·cases h
 ·split at h
  ·rename_i hq;have h5:=Hk hq;have h6:=rM s (run aB s (sk s i));have h7:=fT (s:=s) (i:=run aB s (sk s i)) (c:=61) (by omega) h4;unfold sx at h;have h8:=rM s (aD s (run aB s (sk s i)) 61);have h9:=ng s _ h7;have fM:=oa aP s (sk s (aD s (run aB s (sk s i)) 61));have h11:=lM aP s _ h9;split at h;·cases h
   ·unfold P8 at h;grind[rL,Lq]
  grind
theorem TW:(prog.info? 9).map (fun i=>(i.zero,i.size,i.bytes))=some (some (.string ⟨#[]⟩),1,16):=by kernel_rfl
theorem QI{W}{B}{v}{ws}(h:W.ownsRow B 9 1 v ws.length (ws.map Value.string)):tC W v ws:=by
 rcases de h with⟨rfl,h0⟩|⟨g,cap,rfl,h1,h2,_⟩;·have:=pH h0;subst this;exact⟨_,_,rfl,.inl rfl⟩
 ·refine⟨_,_,rfl,.inr ⟨g,rfl,h2,fun j hj=>?_⟩⟩;rw[cB,h.cellAt j (by omega)];simp[hj]
theorem own_f2{W W'}{B n size r b}{e}{v}{xs}(h:W.ownsRow B e size v n xs)(f:F2 r b W W')(hr:∀q,v.ownBlock=some q->q≠r/\q≠b):W'.ownsRow B e size v n xs:=by
 refine⟨h.1,?_⟩;rcases h.2 with h2|⟨g,cap,cM,rfl,b,c,d⟩;·grind
 ·have:=hr g rfl;refine .inr ⟨g,cap,cM,rfl,b,?_,d⟩;rw[f.block g (az.1 c).1 this.1 this.2];exact c
structure F2'(N:Nat)(W W':World):Prop where
 os:W'.os=W.os
 tape:W'.tape=W.tape
 output:W'.output=W.output
 size:W.heap.size<=W'.heap.size
 block:∀k,k<N->k<W.heap.size->W'.heap[k]?=W.heap[k]?
theorem F2.plus{r b}{W0 W W'}(h:F2 r b W0 W)(k:F2' W0.heap.size W W'):F2 r b W0 W':=
 ⟨k.os.trans h.os,k.tape.trans h.tape,k.output.trans h.output,aH h.size k.size,fun q h1 h2 h3=>(k.block q h1 (zz007 h1 h.size)).trans (h.block q h1 h2 h3)⟩
theorem F2.other{W0 W W':World}{o}(h:W.grownBy W' o)(ho:∀q,o=some q->W0.heap.size<=q):F2' W0.heap.size W W':=⟨h.os,h.tape,h.output,h.size,fun k h1 h2=>h.block k h2 (fun e=>by grind)⟩
theorem PN.beside{W W'}{B}{nv}{L}{KV}{v}{N m sz}{xs}(h:PN W B nv L KV)(hv:W.ownsRow N 9 sz v m xs)(hg:W.grownBy W' v.ownBlock):PN W' B nv L KV:=by refine⟨?_,h.len⟩;obtain⟨ys,hx⟩:=h.nr.row;refine⟨⟨ys,hx.kept hg (fJ hx hv (by decide))⟩,fun g rh j hj t u Au=>?_,h.nr.len,fun j hj=>(h.nr.kids j hj).kept hg (fJ (h.nr.kids j hj) hv (by decide)),h.nr.sep⟩;have hl:=hx.lt g rh;rw[ba (hg.block g hl.2 (by grind[fJ]))];exact h.nr.cells g rh j hj t u Au
def MM(w w':World)(e:Ending)(rb B bl:Nat)(E:Nat->Addr)(s:ByteArray)(av nv:Value)(KV:Nat->Value)(n:Nat)(r:Except Nat (Nat×jA×List Nd)):Prop:=
 F2 rb bl w w'/\match r with
 |.error b=>e=.panicked [{v:=cD (b:Int) (aT (E 2)),recovered:=false}]
 |.ok (i,er,L)=>e=Rw (.tuple #[])/\PR w' rb s i av nv (fu E er)/\PN w' B nv L KV/\L.length=n
structure Ras(W0 W:World)(rb ab B bl n0 cap j kind:Nat)(E:Nat->Addr)(s:ByteArray)(i:Nat)(er:jA)(L:List Nd)(KV:Nat->Value)(v:Value)(ws:List ByteArray):Prop where
 env:Vx W rb ab B E
 pr:PR W rb s i (Sq ab 12 12) (Sq bl n0 cap) (fu E er)
 pn:PN W B (Sq bl n0 cap) L KV
 len:L.length=n0
 kind:(ac L j).kind=kind
 row:W.ownsRow W0.heap.size 9 1 v ws.length (ws.map Value.string)
 wl:ws.length<=i
 il:i<=s.size
 fr:F2 rb bl W0 W
theorem readAttributes_any(rb ab B:Nat)(E:Nat->Addr)(s:ByteArray)(i:Nat)(er:jA)(L:List Nd)(KV:Nat->Value)(bl cap j kind:Nat)(w:World)(env:Vx w rb ab B E)
 (h:PR w rb s i (Sq ab 12 12) (Sq bl L.length cap) (fu E er)) (hn:PN w B (Sq bl L.length cap) L KV) (hL:L.length<=100000) (hj:j<L.length) (hkd:(ac L j).kind=kind) (Wu:kind<7) (hs:s.size<=1073741824) (hi:i<=s.size):
 Cw 114 #[Pq rb,.pointer (some (aq bl (j*16)))] w fun e w'=>MM w w' e rb B bl E s (Sq ab 12 12) (Sq bl L.length cap) KV L.length (dF s kind j (s.size+1) i er L []):=by
 obtain⟨R,hR⟩:=af (dF s kind j (s.size+1) i er L []);rw[hR];have hbl:=hn.nr.row.choose_spec.lt bl rfl;have oj:=h.lt;obtain⟨n0,_l⟩:=af L.length;rw[_l]at h hn hL hj⊢;have H0:Hid (Ras w w rb ab B bl n0 cap j kind E s i er L KV (.slice none 0 0) []):=⟨env,h,hn,_l,hkd,jb _ _ _ _,bm _,hi,F2.below (ag _ _)⟩;have HR:=qH<|hR;obtain⟨i0,hi0,dJ,fy,fB⟩:=info_parts TW;have qm:=env.rbB;have ri:=env.lo;go_enter func114,ntmps114;go_wp2;go_loopw[4,5] (fun v b wr=>∃(i:Nat) (er:jA) (L:List Nd) (ws:List ByteArray) (f:Nat) (m:Bool),b=.bool m/\Hid (Ras w wr rb ab B bl n0 cap j kind E s i er L KV v ws)/\s.size<f+i/\Hid ((if m=true then dF s kind j f i er L ws else nZ s i er L)=R)) (fun _ b wr=>2*(s.size-prI wr rb)+(match b with|.bool true=>1|_=>0));case atStart=>grind
 case round=>
  obtain⟨i,er,L,ws,f,m,rfl,HS,hf,qU⟩:=hrel;have Oz:=HS.il;have _C:=HS.wl;cases m with
  |true=>
   obtain⟨f,rfl⟩:∃q,f=q+1:=⟨f-1,by omega⟩;have hl:=HS.len;subst hl;have YE:∀q,u4.ownBlock=some q->q≠rb/\q≠bl:=fun q hq=>by have:=(HS.row.lt q hq).1;omega
   have CR:=qH<|readAttribute_any rb ab B E s i er L KV bl cap j kind u4 ws wr HS.env HS.pr HS.pn hL hj HS.kind Wu (QI HS.row) YE (by omega) hs Oz;cases hp:eD s kind ws L j i er with
   |error b=>
    have gI:Hid (R=.error b):=by show _=_;rw[<-qU.out];simp only[if_true];unfold dF;rw[hp]
    rw[hp]at CR;go_wp2_with fail;refine CR.mono ?_;rintro e w2 ⟨f2,rfl⟩;refine⟨rfl,?_⟩;rw[gI.out];exact⟨HS.fr.trans f2,rfl⟩
   |ok r=>
    obtain⟨i2,eT,L2,t⟩:=r;obtain⟨b1,b2,b3,b4⟩:=Da Oz hp;have gI:Hid ((if a_ s i2 59=true then dF s kind j f (aD s i2 59) eT L2 (ws++[t])else nZ s (aD s i2 59) eT L2)=R):=by
     show _=_;rw[<-qU.out];simp only[if_true];conv=>rhs;unfold dF
     rw[hp]
    have HB4:Hid ((ac L2 j).kind=kind):=by show _=_;rw[b4];exact HS.kind
    have fm:=qH<|b3;rw[hp]at CR;go_wp2_with fail;refine CR.mono ?_;rintro e w2 ⟨f2,rfl,h2,n2⟩;have HR2:=qH<|h2;have HN2:=qH<|n2;have HF2:=qH<|f2;have HO2:=qH<|own_f2 HS.row f2 YE;have jT:=HO2.out;have sW:=aH HS.fr.size f2.size;go_wp2_with(at_builtin;refine wpList_append_own _ rfl _ _ 223 rfl w.heap.size 9 i0 (.string ⟨#[]⟩) 1 16 underlying223 hi0 dJ fy fB rfl (by decide) _ _ _ rfl (jT.alloc _) _ 1 1 [.string t] rfl rfl ?c1 ?c2 ?c3 ?c4 ?c5 ?_);case c1=>grind[pY]
    case c2=>intro u hu;simp at hu;subst hu;rfl
    case c3=>unfold maxLen;omega
    case c4=>omega
    case c5=>simp;omega
    intro v' w3 bS hg _;have Jl:Hid (Bt w2 (w2.alloc (.cells #[.string t] 9))):=(ag _ _).alloc (ae _) _;have hge:=fun q hq=>(jT.lt q hq).1;have HR3:=qH<|PR.far (HR2.below Jl) hg hge oj;have HN3:=qH<|(HN2.up (Up.below Jl)).beside (jT.alloc _) hg;have HE3:=qH<|((HS.env.fr (HF2.fr HS.env.le hbl.1)).fr (Fr.below Jl (aH HS.env.le HF2.size))).fr (Fr.own hg (by have:=HS.env.le;have:=HF2.size;simp;omega) (fun q hq=>by grind));have HF3:=qH<|(HS.fr.trans (HF2.trans (F2.below Jl))).plus (F2.other hg hge);have HO3:Hid (w3.ownsRow w.heap.size 9 1 v' (ws++[t]).length ((ws++[t]).map Value.string)):=by rw[aI,pK];exact bS
    have CT:Hid (Cw 113 #[Pq rb,.int .u8 59] w3 fun e w'=>e=Rw (.bool (a_ s i2 59))/\PR w' rb s (aD s i2 59) (Sq ab 12 12) (Sq bl L.length cap) (fu E eT)/\w3.grownBy w' (some rb)):=mM rb s i2 _ _ _ 59 w3 HR3 (by omega) b2 (by omega);have kM:aD s i2 59<=s.size:=fT (by omega) b2;have rh:i2<=aD s i2 59:=by unfold aD;have:=rM s i2;split<;>omega
    obtain⟨m',_k⟩:=af (a_ s i2 59);obtain⟨i3,nR⟩:=af (aD s i2 59);rw[_k,nR]at CT gI;rw[nR]at kM rh;go_wp2_with fail;refine CT.mono ?_;rintro e w4 ⟨rfl,h4,g4⟩;have Jq:=qH<|h4.prI;have ze_:=qH<|HS.pr.prI;have HSN:Hid (Ras w w4 rb ab B bl L.length cap j kind E s i3 eT L2 KV v' (ws++[t])):=⟨HE3.fr (Fr.grown g4 HE3.le),h4,HN3.up (Up.grown g4 qm),fm,HB4,own_f2 HO3 (F2.left (b:=bl) g4) (fun q hq=>by have:=(HO3.lt q hq).1;omega),by grind,kM,HF3.trans (F2.left g4)⟩;go_wp2;go_roundw;case rel=>grind
    case measure=>rw[Jq.out,ze_.out];grind
  |false=>
   have hl:=HS.len;subst hl;by_cases hq:a_ s i 125=true
   ·have CX:Hid (Cw 116 #[Pq rb,.int .u8 125] wr fun e w'=>e=Rw (.tuple #[])/\PR w' rb s (aD s i 125) (Sq ab 12 12) (Sq bl L.length cap) (fu E er)/\wr.grownBy w' (some rb)):=iL rb s i _ _ _ 125 wr HS.pr (by omega) Oz (by omega) hq;have gI:Hid (R=.ok (aD s i 125,er,L)):=by show _=_;rw[<-qU.out];simp only[I6,if_false];unfold nZ;rw[if_pos hq]
    go_wp2_with fail;refine CX.mono ?_;rintro e w2 ⟨rfl,h2,g2⟩;have HO:Hid (MM w w2 (.returned (.tuple #[])) rb B bl E s (Sq ab 12 12) (Sq bl L.length cap) KV L.length R):=by show MM _ _ _ _ _ _ _ _ _ _ _ _ _;rw[gI.out];exact⟨HS.fr.trans (F2.left g2),rfl,h2,HS.pn.up (Up.grown g2 qm),rfl⟩
    go_wp2;go_end0;exact HO
   ·have _t:a_ s i 125=false:=by simpa using hq
    have CX:Hid (Cw 116 #[Pq rb,.int .u8 125] wr fun e w'=>e=.panicked [{v:=cD (sk s i:Int) (aT (E 2)),recovered:=false}]/\wr.grownBy w' (some rb)):=jS rb s i _ _ _ (E 2) 125 wr HS.pr (by omega) Oz (by omega) _t (by omega) HS.env.g2;have gI:Hid (R=.error (sk s i)):=by show _=_;rw[<-qU.out];simp only[I6,if_false];unfold nZ;rw[if_neg hq]
    go_wp2_with fail;refine CX.mono ?_;rintro e w2 ⟨rfl,g2⟩;refine⟨rfl,?_⟩;rw[gI.out];exact⟨HS.fr.trans (F2.left g2),rfl⟩
def kN(n depth:Nat):Option Nat:=if 100<=n then some 3 else if 12<=depth then some 4 else none
theorem UU  n depth   E  :pj n depth (E 3) (E 4)=ZU E (kN n depth):=by
 unfold pj kN;split;·rfl
 ·split<;>rfl
def dA(s:ByteArray)(st:PS)(c:Nat):Except Nat PS:=if a_ s st.i c=true then .ok {st with i:=aD s st.i c}else .error (sk s st.i)
def ig(s:ByteArray)(bn:PS->Except Nat PS):Nat->PS->Except Nat PS
 |0,st=>.error st.i
 |f+1,st=>match bn st with
  |.error b=>.error b
  |.ok eX=>if a_ s eX.i 44=true then ig s bn f {eX with i:=aD s eX.i 44}else dA s {eX with i:=aD s eX.i 44} 93
def gU(s:ByteArray)(bn:PS->Except Nat PS)(st:PS):Except Nat PS:=
 if a_ s st.i 91=true then(if a_ s (aD s st.i 91) 93=true then .ok {st with i:=aD s (aD s st.i 91) 93}else ig s bn (s.size+1) {st with i:=aD s (aD s st.i 91) 93})else .error (sk s st.i)
def pd(r:Except Nat PS)(g:PS->Except Nat PS):Except Nat PS:=match r with
 |.error b=>.error b
 |.ok st=>g st
def qG(s:ByteArray)(bn:PS->Except Nat PS)(st:PS):Except Nat PS:=
 if a_ s st.i 91=true then pd (bn {st with i:=aD s st.i 91}) fun eX=>dA s eX 93 else .error (sk s st.i)
def iW(s:ByteArray)(idx:Nat)(st:PS):Except Nat PS:=match mS s st.i with
 |.error b=>.error b
 |.ok (i2,t)=>.ok {st with i:=i2,L:=aF st.L idx t}
def pc(s:ByteArray)(kind idx:Nat)(bn:PS->Except Nat PS)(st:PS):Except Nat PS:=
 if kind=5 then iW s idx st else if kind=6 then .ok st else if kind=3\/kind=4 then qG s bn st else gU s bn st
def UG(s:ByteArray)(kind idx i:Nat)(er:jA)(L:List Nd):Except Nat PS:=
 if a_ s i 123=true then(match dF s kind idx (s.size+1) (aD s i 123) er L []with
  |.error b=>.error b
  |.ok (i2,eT,L2)=>.ok ⟨i2,L2,eT⟩)else .ok ⟨aD s i 123,L,er⟩
def og(s:ByteArray)(i:Nat):ByteArray:=s.extract (sk s i) (run aB s (sk s i))
def dt(s:ByteArray)(i:Nat):Int:=aJ eh (og s i) 0
def aG(s:ByteArray):Nat->Int->Nat->PS->Except Nat PS
 |0,_,_,st=>.error st.i
 |f+1,up,depth,st=>
  if dt s st.i<0 then .error (sk s st.i)else
  pd (UG s (dt s st.i).toNat st.L.length (run aB s (sk s st.i)) (jU st.er (kN st.L.length depth) (sk s st.i)) (grown st.L ⟨(dt s st.i).toNat,aV,[],[],up⟩)) fun cC=>pc s (dt s st.i).toNat st.L.length (aG s f (st.L.length:Int) (depth+1)) cC
structure fI(s:ByteArray)(st:PS):Prop where
 il:st.i<=s.size
 ll:st.L.length<=st.i
 kl:∀j,(ac st.L j).kids.length<=st.L.length
structure yz(s:ByteArray)(st cj:PS):Prop where
 good:fI s cj
 ge:st.i<=cj.i
 lg:st.L.length<=cj.L.length
theorem cY  s   i c  :i<=aD s i c:=by grind[aD,rM]
theorem fI.at{s}{st}(h:fI s st){c}(hc:c<256):fI s {st with i:=aD s st.i c}:=
 ⟨fT hc h.il,aH h.ll (cY _ _ _),h.kl⟩
theorem Db{s}{st cj}{c}(hc:c<256)(h:fI s st)(e:dA s st c=.ok cj):yz s st cj/\st.i<cj.i:=by
 unfold dA at e;split at e;·rename_i hq;injection e with e;subst e;have:=Hk hq;have:=rM s st.i;exact⟨⟨h.at hc,cY _ _ _,ae _⟩,by grind⟩
 grind
theorem yz.trans{s}{a b c}(h:yz s a b)(k:yz s b c):yz s a c:=⟨k.good,aH h.ge k.ge,aH h.lg k.lg⟩
theorem Ci{s}{N}{bn}(hnode:∀a b,fI s a->N<=a.L.length->bn a=.ok b->yz s a b/\a.i<b.i):∀f st cj,fI s st->N<=st.L.length->ig s bn f st=.ok cj->yz s st cj/\st.i<cj.i
 |0,st,cj,h,hN,e=>by cases e
 |f+1,st,cj,h,hN,e=>by
  unfold ig at e;split at e;·cases e
  ·rename_i eX he;obtain⟨h2,l2⟩:=hnode _ _ h hN he;have hg:=h2.good.at (c:=44) (by omega);have h3:yz s st {eX with i:=aD s eX.i 44}:=⟨hg,aH h2.ge (cY _ _ _),h2.lg⟩;have l3:st.i<aD s eX.i 44:=zz007 l2 (cY _ _ _);split at e;·obtain⟨h4,l4⟩:=Ci hnode f _ _ hg (aH hN h2.lg) e;exact⟨h3.trans h4,zz121 l3 l4⟩
   ·obtain⟨h4,l4⟩:=Db (by omega) hg e;exact⟨h3.trans h4,zz121 l3 l4⟩
section
variable{s:ByteArray} {N:Nat} {bn:PS->Except Nat PS}
theorem Pr(hnode:∀a b,fI s a->N<=a.L.length->bn a=.ok b->yz s a b/\a.i<b.i){st cj}(h:fI s st)(hN:N<=st.L.length)(e:gU s bn st=.ok cj):yz s st cj:=by
 unfold gU at e;have h1:=h.at (c:=91) (by omega);have h2:=h1.at (c:=93) (by omega);have g1:=cY s st.i 91;have g2:=cY s (aD s st.i 91) 93;have f2:yz s st {st with i:=aD s (aD s st.i 91) 93}:=⟨h2,aH g1 g2,ae _⟩;split at e
 ·split at e;·grind
  ·exact f2.trans (Ci hnode _ _ _ h2 hN e).1
 grind
theorem UD(hnode:∀a b,fI s a->N<=a.L.length->bn a=.ok b->yz s a b/\a.i<b.i){st cj}(h:fI s st)(hN:N<=st.L.length)(e:qG s bn st=.ok cj):yz s st cj:=by
 unfold qG at e;have h1:=h.at (c:=91) (by omega);have f1:yz s st {st with i:=aD s st.i 91}:=⟨h1,cY _ _ _,ae _⟩;split at e
 ·unfold pd at e;split at e;·cases e
  ·rename_i eX he;obtain⟨h2,_⟩:=hnode _ _ h1 hN he;exact f1.trans (h2.trans (Db (by omega) h2.good e).1)
 grind
theorem Iw:∀f p acc i t,p<=s.size->qF s f p acc=.ok (i,t)->p<i/\i<=s.size
 |0,p,acc,i,t,hp,h=>by cases h
 |f+1,p,acc,i,t,hp,h=>by
  have eU:∀q,dS s q≠256->q<s.size:=fun q hq=>by grind[ir]
  unfold qF at h;split at h;·cases h
  ·rename_i h0;have:=eU p h0;split at h;·grind
   ·split at h
    ·split at h;·rename_i hq;have:=eU (p+1) (by omega);have:=Iw f (p+2) _ i t (by omega) h;omega
     ·split at h;·rename_i hq;have:=eU (p+1) (by omega);have:=Iw f (p+2) _ i t (by omega) h;omega
      grind
    ·have:=Iw f (p+1) _ i t (by omega) h;omega
theorem nc  L   k j   t  :(ac (aF L k t) j).kids=(ac L j).kids:=by grind[aF,bA,ac,aY]
theorem vz{idx}{st cj}(h:fI s st)(e:iW s idx st=.ok cj):yz s st cj:=by
 unfold iW mS at e;split at e;·cases e
 ·rename_i i2 t he;injection e with e;subst e;split at he
  ·have g:=Iw _ _ _ _ _ (fT (by omega) h.il) he;have g2:=cY s st.i 34;refine⟨⟨g.2,?_,fun j=>?_⟩,by grind,by grind[aF]⟩;·show(aF st.L idx t).length<=i2;unfold aF;have:=h.ll;grind
   ·show(ac (aF st.L idx t) j).kids.length<=(aF st.L idx t).length;rw[nc];unfold aF;simpa using h.kl j
  grind
theorem Ns(hnode:∀a b,fI s a->N<=a.L.length->bn a=.ok b->yz s a b/\a.i<b.i){kind idx}{st cj}(h:fI s st)(hN:N<=st.L.length)(e:pc s kind idx bn st=.ok cj):yz s st cj:=by
 unfold pc at e;split at e;·exact vz h e
 ·split at e;·injection e with e;subst e;exact⟨h,ae _,ae _⟩
  grind[UD,Pr]
end
theorem Lp  L   j k q   n  :(ac (pB L j k n) q).kids=(ac L q).kids:=by grind[pB,bA,ac,aY]
theorem FP{s}{kind}{ws}{L}{j i}{er}{i2}{eT}{L2}{t}(h:eD s kind ws L j i er=.ok (i2,eT,L2,t)):∀q,(ac L2 q).kids=(ac L q).kids:=by
 unfold eD at h;split at h;·cases h
 ·split at h
  ·unfold sx at h;split at h;·cases h
   ·unfold P8 at h;grind[Lp]
  grind
theorem tM{s}{kind j}:∀f i er L ws i2 eT L2,i<=s.size->dF s kind j f i er L ws=.ok (i2,eT,L2)->i<i2/\i2<=s.size/\L2.length=L.length/\∀q,(ac L2 q).kids=(ac L q).kids
 |0,i,er,L,ws,i2,eT,L2,hi,h=>by cases h
 |f+1,i,er,L,ws,i2,eT,L2,hi,h=>by
  unfold dF at h;split at h;·cases h
  ·rename_i i3 er3 L3 t he;obtain⟨b1,b2,b3,_⟩:=Da hi he;have b5:=FP he;have g1:=cY s i3 59;have g2:=fT (s:=s) (i:=i3) (c:=59) (by omega) b2;split at h;·obtain⟨c1,c2,c3,c4⟩:=tM f _ _ _ _ _ _ _ g2 h;grind
   grind[nZ,cY,aD,fT]
theorem eJ  L   d  :(grown L d).length=L.length+1:=by grind[grown]
theorem uj  L   d  (hd:d.kids=[]) (hup:d.up<L.length) (h:∀j,(ac L j).kids.length<=L.length)  j  :(ac (grown L d) j).kids.length<=L.length+1:=by grind[ac,eu,eq,grown,oH,bA,aY]
theorem XF{s}{kind idx i}{er}{L}{st}(hi:i<=s.size)(e:UG s kind idx i er L=.ok st):i<=st.i/\st.i<=s.size/\st.L.length=L.length/\∀q,(ac st.L q).kids=(ac L q).kids:=by
 unfold UG at e;have g1:=cY s i 123;have g2:=fT (s:=s) (i:=i) (c:=123) (by omega) hi;split at e
 ·split at e;·cases e
  ·rename_i i2 eT L2 he;obtain⟨b1,b2,b3,b4⟩:=tM _ _ _ _ _ _ _ _ g2 he;grind
 grind
theorem rq{s}{i}(h:¬dt s i<0)(hi:i<=s.size):sk s i<run aB s (sk s i):=by
 by_cases e:sk s i<run aB s (sk s i);·exact e
 ·exfalso;have h3:=oa aB s (sk s i);have:og s i=ByteArray.empty:=by unfold og;rw[show run aB s (sk s i)=sk s i by omega];apply ju;simp
  unfold dt at h;rw[this]at h;exact h (by decide)
theorem Cz{s}:∀f  up  depth st cj,(up<st.L.length)->fI s st->aG s f up depth st=.ok cj->yz s st cj/\st.i<cj.i/\st.L.length<cj.L.length
 |0,up,depth,st,cj,hup,h,e=>by cases e
 |f+1,up,depth,st,cj,hup,h,e=>by
  unfold aG at e;split at e;·cases e
  ·rename_i hk;have hw:=rq hk h.il;have s1:=rM s st.i;have s2:=lM aB s _ (ng s st.i h.il);unfold pd at e;split at e;·cases e
   ·rename_i cC he;obtain⟨b1,b2,b3,b4⟩:=XF s2 he;rw[eJ]at b3;have g1:fI s cC:=⟨b2,by have:=h.ll;omega,fun j=>by rw[b4,b3];exact uj _ _ rfl hup h.kl j⟩;have f1:yz s st cC:=⟨g1,by omega,by omega⟩;have f2:=Ns (N:=st.L.length+1) (fun a b ga hN Hn=>by obtain⟨q1,q2,_⟩:=Cz f (st.L.length:Int) (depth+1) a b (by omega) ga Hn;grind) g1 (by omega) e;exact⟨f1.trans f2,by have:=f2.ge;omega,by have:=f2.lg;omega⟩
def kS(L:List Nd):Nat->Nat
 |0=>0
 |n+1=>kS L n+(ac L n).kids.length
theorem zA{L L'}:∀n,(∀j,j<n->(ac L' j).kids=(ac L j).kids)->kS L' n=kS L n
 |0,_=>rfl
 |n+1,h=>by show kS L' n+(ac L' n).kids.length=kS L n+(ac L n).kids.length;rw[zA n (fun j hj=>h j (by omega)),h n (by omega)]
theorem Pc{L L'}{u}(hu:(ac L' u).kids.length=(ac L u).kids.length+1):∀n,u<n->(∀j,j<n->j≠u->(ac L' j).kids=(ac L j).kids)->kS L' n=kS L n+1
 |0,h,_=>by omega
 |n+1,h,hk=>by
  show kS L' n+(ac L' n).kids.length=kS L n+(ac L n).kids.length+1;by_cases e:u=n;·grind[zA]
  ·rw[Pc hu n (by omega) (fun j hj L5=>hk j (by omega) L5),hk n (by omega) (fun e2=>e e2.symm)];omega
structure AG(L:List Nd):Prop where
 up0:∀i:Nat,i<L.length->((ac L i).up<0↔i=0)
 upl:∀i:Nat,i<L.length->(ac L i).up<i
 kid:∀i k c:Nat,i<L.length->(ac L i).kids[k]?=some c->i<c/\c<L.length/\(ac L c).up=i
 rise:∀i k c d:Nat,i<L.length->(ac L i).kids[k]?=some c->(ac L i).kids[k+1]?=some d->c<d
 first:∀i c:Nat,i<L.length->(ac L i).kids[0]?=some c->c=i+1
 cnt:0<L.length->kS L L.length+1=L.length
theorem AG.empty:AG []:=⟨fun i h=>absurd h (by simp),fun i h=>absurd h (by simp),fun i _ _ h=>absurd h (by simp),fun i _ _ _ h=>absurd h (by simp),fun i _ h=>absurd h (by simp),fun h=>absurd h (by simp)⟩
theorem AG.congr{L L'}(h:AG L)(hl:L'.length=L.length)(hk:∀j,(ac L' j).kids=(ac L j).kids)(hu:∀j,(ac L' j).up=(ac L j).up):AG L':=by
 refine⟨fun i hi=>?_,fun i hi=>?_,fun i k c hi hc=>?_,fun i k c d hi hc hd=>?_,fun i c hi hc=>?_,fun hp=>?_⟩;·rw[hu];exact h.up0 i (by omega)
 ·rw[hu];exact h.upl i (by omega)
 ·rw[hk]at hc;rw[hu,hl];exact h.kid i k c (by omega) hc
 ·rw[hk]at hc hd;exact h.rise i k c d (by omega) hc hd
 ·rw[hk]at hc;exact h.first i c (by omega) hc
 ·rw[hl,zA _ (fun j _=>hk j)];exact h.cnt (by omega)
def MH(L:List Nd)(up:Int):Prop:=(up=-1/\L=[])\/∃u:Nat,up=(u:Int)/\u<L.length/\((ac L u).kids=[]->L.length=u+1)
theorem AG.grow{L}{d}(h:AG L)(hd:d.kids=[])(hp:MH L d.up):AG (grown L d)/\(∀j,j<L.length->(ac L j).kids.length<=(ac (grown L d) j).kids.length)/\(0<=d.up->(ac (grown L d) d.up.toNat).kids≠[])/\(ac (grown L d) L.length).kids=[]:=by
 rcases hp with⟨hu,rfl⟩|⟨u,hu,YN,hf⟩
 ·have e:grown [] d=[d]:=by unfold grown;rw[if_pos (by omega)];rfl
  rw[e];have n0:ac [d] 0=d:=rfl;refine⟨⟨fun i hi=>?_,fun i hi=>?_,fun i k c hi hc=>?_,fun i k c q hi hc=>?_,fun i c hi hc=>?_,fun _=>?_⟩,fun j hj=>absurd hj (by simp),fun h0=>by omega,by grind⟩;·grind
  ·grind
  ·grind
  ·grind
  ·grind
  ·show 0+(ac [d] 0).kids.length+1=1;grind
 ·have hL:=eJ L d;have e:=oH L d u (by omega) (by omega);have a1:ac (grown L d) u={ac L u with kids:=(ac L u).kids++[L.length]}:=by rw[e,bA _ (by grind),eu YN]
  have a2:ac (grown L d) L.length=d:=by rw[e,aY _ (by omega),eq]
  have a3:∀j,j<L.length->j≠u->ac (grown L d) j=ac L j:=fun j hj RU=>by grind[aY,eu]
  have au:∀j,j<L.length->(ac (grown L d) j).up=(ac L j).up:=fun j hj=>by grind
  -- a kid of a bn: an old one,or the new one
  have ak:∀i k c:Nat,i<L.length+1->(ac (grown L d) i).kids[k]?=some c->(i<L.length/\(ac L i).kids[k]?=some c)\/(i=u/\k=(ac L u).kids.length/\c=L.length):=fun i k c hi hc=>by grind
  refine⟨⟨fun i hi=>?_,fun i hi=>?_,fun i k c hi hc=>?_,fun i k c q hi hc hq=>?_,fun i c hi hc=>?_,fun _=>?_⟩,fun j hj=>?_,fun _=>?_,?_⟩
  ·rw[hL]at hi;by_cases eU:i=L.length;·grind
   ·rw[au i (by omega)];exact h.up0 i (by omega)
  ·rw[hL]at hi;by_cases eU:i=L.length;·grind
   ·rw[au i (by omega)];exact h.upl i (by omega)
  ·rw[hL]at hi;rcases ak i k c hi hc with⟨qi,E4⟩|⟨rfl,_,rfl⟩;·obtain⟨q1,q2,q3⟩:=h.kid i k c qi E4;grind
   grind
  ·rw[hL]at hi;rcases ak i k c hi hc with⟨qi,E4⟩|⟨rfl,hk,rfl⟩
   ·rcases ak i (k+1) q hi hq with⟨_,nT⟩|⟨rfl,hk,rfl⟩;·exact h.rise i k c q qi E4 nT
    ·exact(h.kid i k c qi E4).2.1
   grind
  ·rw[hL]at hi;rcases ak i 0 c hi hc with⟨qi,E4⟩|⟨rfl,hk,rfl⟩;·exact h.first i c qi E4
   grind
  ·rw[hL];show kS (grown L d) L.length+(ac (grown L d) L.length).kids.length+1=L.length+1;rw[a2,hd,Pc (L:=L) (u:=u) (by grind) L.length YN (fun j hj RU=>by grind)];have:=h.cnt (by omega);grind
  ·grind
  all_goals simp_all
structure Jk(L L':List Nd):Prop where
 gr:AG L'
 len:L.length<=L'.length
 kids:∀j,j<L.length->(ac L j).kids.length<=(ac L' j).kids.length
theorem Jk.refl{L}(h:AG L):Jk L L:=⟨h,ae _,fun _ _=>ae _⟩
theorem Jk.trans{L L1 L2}(h:Jk L L1)(k:Jk L1 L2):Jk L L2:=⟨k.gr,aH h.len k.len,fun j hj=>aH (h.kids j hj) (k.kids j (zz007 hj h.len))⟩
def ME(u:Nat)(bn:PS->Except Nat PS):Prop:=∀a b,AG a.L->MH a.L (u:Int)->bn a=.ok b->Jk a.L b.L/\(ac b.L u).kids≠[]
theorem Ic{s}{u}{bn}(hn:ME u bn):∀f st cj,AG st.L->MH st.L (u:Int)->iQ s bn f st=.ok cj->Jk st.L cj.L
 |0,st,cj,h,hp,e=>by cases e
 |f+1,st,cj,h,hp,e=>by
  unfold iQ at e;split at e;·cases e
  ·rename_i eX he;obtain⟨h2,k2⟩:=hn _ _ h hp he;split at e
   ·have YN:u<eX.L.length:=by
     rcases hp with⟨hx,_⟩|⟨u',hx,YN,_⟩;·omega
     ·have:u=u':=by omega
      subst this;exact zz007 YN h2.len
    exact h2.trans (Ic hn f {eX with i:=aD s eX.i 44} _ h2.gr (.inr ⟨u,rfl,YN,fun e=>absurd e k2⟩) e)
   grind
theorem SM{s}{kind u}{bn}(hn:ME u bn){st cj}(h:AG st.L)(hp:MH st.L (u:Int))(e:lk s kind u bn st=.ok cj):Jk st.L cj.L:=by
 unfold lk at e;split at e
 ·split at e;·cases e
  ·split at e;·grind[Jk.refl]
   ·rename_i i2 _ _;exact Ic hn _ {st with i:=sk s i2} _ h hp e
 ·split at e
  ·split at e;·cases e
   ·split at e;·cases e
    ·rename_i i2 _ _ jZ he;obtain⟨h3,_⟩:=hn {st with i:=i2} jZ h hp he;grind
  ·split at e
   ·split at e;·cases e
    ·rename_i i2 t he;injection e with e;subst e;have hl:(aF st.L u t).length=st.L.length:=by unfold aF;simp
     have hk:=nc st.L u;refine⟨h.congr hl (fun j=>hk j t) (fun j=>?_),by grind,fun j _=>by grind⟩;grind[ac,aF,bA,aY]
   grind[Jk.refl]
theorem Ii{s}:∀f  up  depth st cj,AG st.L->MH st.L up->js s f up depth st=.ok cj->Jk st.L cj.L/\st.L.length<cj.L.length/\(0<=up->(ac cj.L up.toNat).kids≠[])
 |0,up,depth,st,cj,h,hp,e=>by cases e
 |f+1,up,depth,st,cj,h,hp,e=>by
  unfold js at e;dsimp only at e;split at e;·cases e
  ·split at e;·cases e
   ·rename_i i2 eT a he;obtain⟨d,hd⟩:∃d:Nd,(⟨(aJ eh (s.extract (sk s st.i) (run aB s (sk s st.i))) 0).toNat,a,[],[],up⟩:Nd)=d:=⟨_,rfl⟩;have hdk:d.kids=[]:=by rw[<-hd]
    have hdu:d.up=up:=by rw[<-hd]
    rw[hd]at e;obtain⟨g1,g2,g3,g4⟩:=h.grow hdk (by grind);have hl:=eJ st.L d;have hb:=SM (u:=st.L.length) (fun a b ga pa Hn=>by obtain⟨q1,_,q3⟩:=Ii f (st.L.length:Int) (depth+1) a b ga pa Hn;grind) (st:={i:=i2,L:=grown st.L d,er:=eT}) g1 (.inr ⟨st.L.length,rfl,by grind,fun _=>hl⟩) e;have aO:(grown st.L d).length<=cj.L.length:=hb.len;refine⟨Jk.trans ⟨g1,by omega,g2⟩ hb,by omega,fun h0=>?_⟩;have h3:=g3 (by omega);rw[hdu]at h3;have hlt:up.toNat<(grown st.L d).length:=by
     rcases hp with⟨hx,_⟩|⟨u',hx,YN,_⟩;·omega
     ·omega
    have h4:(ac (grown st.L d) up.toNat).kids.length<=(ac cj.L up.toNat).kids.length:=hb.kids up.toNat hlt;intro h5;simp_all
theorem De{s}{L}(h:pf s=.ok L):AG L/\0<L.length:=by
 unfold pf at h;split at h;·cases h
 ·split at h;·cases h
  ·rename_i st he;split at h;·cases h
   ·split at h;·cases h
    ·injection h with h;subst h;obtain⟨q1,q2,_⟩:=Ii _ _ _ _ _ AG.empty (.inl ⟨rfl,rfl⟩) he;exact⟨q1.gr,Nat.lt_of_le_of_lt (bm _) q2⟩
structure Nv(d:Nd):Prop where
 kind:d.kind<7
 len:d.attr.length=12
 att:∀k,k<12->d.attr[k]?.getD 0=aV[k]?.getD 0\/(lH d.kind k=true/\0<=d.attr[k]?.getD 0/\d.attr[k]?.getD 0<=lF[k]?.getD 0)
 text:d.text=[]\/d.kind=5
structure Vl(s:ByteArray)(L:List Nd):Prop where
 nv:∀j,j<L.length->Nv (ac L j)
 tl:∀j,j<L.length->(ac L j).text.length<=s.size
 id:∀i j,i<j->j<L.length->(0:Int)<(ac L j).attr[0]?.getD 0->(ac L i).attr[0]?.getD 0≠(ac L j).attr[0]?.getD 0
 cnt:L.length<=100
def tu(d:Nd):Prop:=d.kind<3\/(3<=d.kind/\d.kind<5/\d.kids.length=1)\/(5<=d.kind/\d.kids=[])
inductive Ch(L:Nat->Nd):Nat->List Nat->Nat->Nat->Prop
 |nil (d a:Nat):Ch L d [] a a
 |cons {d c:Nat} {r:List Nat} {e1 e:Nat}:d<12->tu (L c)->Ch L (d+1) (L c).kids (c+1) e1->Ch L d r e1 e->Ch L d (c::r) c e
theorem Ch.le{L}{d}{ks}{a e}(h:Ch L d ks a e):a<=e:=by
 induction h with
 |nil=>omega
 |cons _ _ _ _ i1 i2=>omega
theorem Ch.congr{L L'}{d}{ks}{a e}(h:Ch L d ks a e):(∀j,a<=j->j<e->L' j=L j)->Ch L' d ks a e:=by
 induction h with
 |nil d a=>intro _;exact .nil d a
 |@cons d c r e1 e h1 h2 h3 h4 i1 i2=>intro hj;have l3:=h3.le;have l4:=h4.le;have ec:=hj c (ae _) (by omega);refine .cons (e1:=e1) h1 (by grind) ?_ (i2 (fun j h1 h2=>hj j (by omega) h2));grind
theorem Ch.app{L}{d}{ks}{a b}(h:Ch L d ks a b){ks'}{e}(k:Ch L d ks' b e):Ch L d (ks++ks') a e:=by
 induction h with
 |nil d a=>exact k
 |cons h1 h2 h3 h4 i1 i2=>exact .cons h1 h2 h3 (i2 k)
structure Av(kind:Nat)(L:List Nd)(a:List Int):Prop where
 len:a.length=12
 att:∀k,k<12->a[k]?.getD 0=aV[k]?.getD 0\/(lH kind k=true/\0<=a[k]?.getD 0/\a[k]?.getD 0<=lF[k]?.getD 0)
 id:(0:Int)<a[0]?.getD 0->m7 L (a[0]?.getD 0)=false
theorem dX{b}{f}{c p}(h:dW b f c p=none):b=false/\f=none:=by
 unfold dW at h;cases b with
 |false=>grind
 |true=>unfold jN at h;grind
theorem xg{f}{c p}(h:jN f c p=none):False:=by unfold jN at h;grind
theorem XQ  s   j  :0<=dv s j (run aP s j-j):=(Bn s j _ (fun t ht=>by grind[tf,aP,run])).1
theorem pU{s}{kind}{L}{i}{er}{a}{seen}{i2}{eT}{a2}{pA}(h:iK s kind L i er a seen=.ok (i2,eT,a2,pA))(h0:eT=none)(hv:Av kind L a):er=none/\Av kind L a2:=by
 unfold iK at h;dsimp only at h;split at h;·cases h
 ·split at h;·cases h
  ·split at h;·cases h
   ·rename_i j2 _ _;split at h;·grind[xg]
    ·rename_i BT;have hn:=XQ s (sk s j2);obtain⟨n,L7⟩:=af (dv s (sk s j2) (run aP s (sk s j2)-sk s j2));obtain⟨ix,hxx⟩:=af (aJ cE (s.extract (sk s i) (run aB s (sk s i))) 0);have Ao:=oF (s.extract (sk s i) (run aB s (sk s i))) cE 0;rw[hxx]at Ao;rw[hxx,L7]at h;rw[L7]at hn;rw[hxx]at BT;injection h with h;injection h with e1 h;injection h with e2 h;injection h with e3 e4;rw[h0]at e2;obtain⟨q1,e2⟩:=dX e2;obtain⟨q2,e2⟩:=dX e2;obtain⟨q3,e2⟩:=dX e2;have Aw:0<=ix/\lH kind ix.toNat=true:=by
      constructor;·omega
      ·grind
     have zhN:ix.toNat<12:=by have:cE.length=12:=rfl;rw[this]at Ao;rcases Ao with e|e<;>omega
     refine⟨e2,?_⟩;subst e3;have hm:n<=lF[ix.toNat]?.getD 0:=by simpa using q2
     have hl:ix.toNat<a.length:=by rw[hv.len];exact zhN
     refine⟨by rw[List.length_set];exact hv.len,fun k hk=>?_,fun hp=>?_⟩
     ·by_cases e:ix.toNat=k;·grind
      ·rw[vH e];exact hv.att k hk
     ·by_cases e:ix.toNat=0;·grind
      ·rw[vH e]at hp⊢;exact hv.id hp
theorem tK{s}{kind}{L}:∀f i er a seen i2 eT a2,dY s kind L f i er a seen=.ok (i2,eT,a2)->eT=none->Av kind L a->er=none/\Av kind L a2
 |0,i,er,a,seen,i2,eT,a2,h,h0,hv=>by cases h
 |f+1,i,er,a,seen,i2,eT,a2,h,h0,hv=>by
  unfold dY at h;split at h;·cases h
  ·rename_i j ze a1 zk1 he;split at h
   ·obtain⟨q1,q2⟩:=tK f _ _ _ _ _ _ _ h h0
     (by
      -- the attribute ahead has no zjE zfG,seen from behind
      have:∀f i er a seen i2 eT a2,dY s kind L f i er a seen=.ok (i2,eT,a2)->eT=none->er=none:=by
       intro f;induction f with
       |zero=>intro i er a seen i2 eT a2 h;cases h
       |succ f ih=>intro i er a seen i2 eT a2 h h0;unfold dY at h;grind[iK,xg,dX]
      grind[pU]);exact⟨(pU he q1 hv).1,q2⟩
   grind[pU]
theorem SJ  kind   L  :Av kind L aV:=⟨rfl,fun k hk=>.inl rfl,fun h=>absurd h (by decide)⟩
theorem tL{s}{kind}{L}{i}{er}{i2}{eT}{a2}(h:pV s kind L i er=.ok (i2,eT,a2))(h0:eT=none):er=none/\Av kind L a2:=by grind[pV,tK,SJ]
theorem zP{s}:∀f p acc i t,qF s f p acc=.ok (i,t)->t.length+p<=i+acc.length/\(p<=s.size->i<=s.size)
 |0,p,acc,i,t,h=>by cases h
 |f+1,p,acc,i,t,h=>by
  have eU:∀q,dS s q≠256->q<s.size:=fun q hq=>by grind[ir]
  unfold qF at h;split at h;·cases h
  ·rename_i h0;have:=eU p h0;split at h;·grind
   ·split at h
    ·split at h;·rename_i hq;have h3:=eU (p+1) (by omega);have h4:=zP f (p+2) _ i t h;grind
     ·split at h;·rename_i hq;have h3:=eU (p+1) (by omega);have h4:=zP f (p+2) _ i t h;grind
      grind
    ·have h4:=zP f (p+1) _ i t h;grind
theorem UO{s}{i j}{t}(h:mS s i=.ok (j,t)):t.length<=s.size:=by
 unfold mS at h;split at h;·rename_i hq;have h1:=zP _ _ _ _ _ h;grind[aD,sk,a_,ir]
 grind
theorem iM  L   d   j  (hj:j<L.length):(ac (grown L d) j).kind=(ac L j).kind/\(ac (grown L d) j).attr=(ac L j).attr/\(ac (grown L d) j).text=(ac L j).text/\(ac (grown L d) j).up=(ac L j).up/\((j:Int)≠d.up->ac (grown L d) j=ac L j)/\((j:Int)=d.up->ac (grown L d) j={ac L j with kids:=(ac L j).kids++[L.length]}):=by grind[grown,eu,bA,aY]
theorem mj  L   d  :ac (grown L d) L.length=d:=by grind[grown,eq]
theorem Oq{L}{n}(h:m7 L n=false)  i  (hi:i<L.length):(ac L i).attr[0]?.getD 0≠n:=by grind[m7,ac]
theorem Vl.grown{s:ByteArray}{L:List Nd}{d:Nd}(h:Vl s L)(hd:Nv d)(ht:d.text.length<=s.size)(hid:(0:Int)<d.attr[0]?.getD 0->m7 L (d.attr[0]?.getD 0)=false)(hc:L.length<100):Vl s (grown L d):=by
 have hl:=eJ L d;refine⟨fun j hj=>?_,fun j hj=>?_,fun i j Hr hj h0=>?_,by omega⟩
 ·by_cases e:j=L.length;·grind[mj]
  ·obtain⟨a1,a2,a3,_⟩:=iM L d j (by omega);have:=h.nv j (by omega);exact⟨by rw[a1];exact this.kind,by rw[a2];exact this.len,by rw[a1,a2];exact this.att,by rw[a1,a3];exact this.text⟩
 ·by_cases e:j=L.length;·grind[mj]
  ·obtain⟨a1,a2,a3,_⟩:=iM L d j (by omega);rw[a3];exact h.tl j (by omega)
 ·have ei:=(iM L d i (by omega)).2.1;by_cases e:j=L.length;·grind[mj,Oq]
  ·have ej:=(iM L d j (by omega)).2.1;rw[ej]at h0⊢;rw[ei];exact h.id i j Hr (by omega) h0
theorem gH  L   k   t   j  :(ac (aF L k t) j).kind=(ac L j).kind/\(ac (aF L k t) j).attr=(ac L j).attr/\(ac (aF L k t) j).kids=(ac L j).kids/\(ac (aF L k t) j).up=(ac L j).up/\(j≠k->ac (aF L k t) j=ac L j)/\(j=k->j<L.length->ac (aF L k t) j={ac L j with text:=t}):=by grind[aF,bA,ac,aY]
theorem Vl.texted{s}{L}{k}{t}(h:Vl s L)(hk:k<L.length)(h5:(ac L k).kind=5)(ht:t.length<=s.size):Vl s (aF L k t):=by
 have hl:(aF L k t).length=L.length:=by unfold aF;simp
 refine⟨fun j hj=>?_,fun j hj=>?_,fun i j Hr hj h0=>?_,by rw[hl];exact h.cnt⟩
 ·obtain⟨a1,a2,a3,_,a5,a6⟩:=gH L k t j;have:=h.nv j (by omega);refine⟨by rw[a1];exact this.kind,by rw[a2];exact this.len,by rw[a1,a2];exact this.att,?_⟩;by_cases e:j=k;·grind
  ·rw[a5 e];exact this.text
 ·obtain⟨a1,a2,a3,_,a5,a6⟩:=gH L k t j;by_cases e:j=k;·grind
  ·rw[a5 e];exact h.tl j (by omega)
 ·rw[(gH L k t j).2.1]at h0⊢;rw[(gH L k t i).2.1];exact h.id i j Hr (by omega) h0
structure NOk(s:ByteArray)(L L':List Nd)(up:Int)(depth:Nat):Prop where
 vl:Vl s L'
 lt:L.length<L'.length
 ch:Ch (ac L') depth [L.length] L.length L'.length
 upE:(ac L' L.length).up=up
 old:∀j:Nat,j<L.length->(j:Int)≠up->ac L' j=ac L j
 par:∀j:Nat,j<L.length->(j:Int)=up->ac L' j={ac L j with kids:=(ac L j).kids++[L.length]}
structure Xx(s:ByteArray)(L L':List Nd)(u d:Nat)(ks:List Nat):Prop where
 vl:Vl s L'
 le:L.length<=L'.length
 ch:Ch (ac L') d ks L.length L'.length
 old:∀j:Nat,j<L.length->j≠u->ac L' j=ac L j
 par:ac L' u={ac L u with kids:=(ac L u).kids++ks}
theorem NOk.kids{s}{L L1:List Nd}{u d}(hu:u<L.length)(h:NOk s L L1 (u:Int) d):Xx s L L1 u d [L.length]:=
 ⟨h.vl,Nat.le_of_lt h.lt,h.ch,fun j hj RU=>h.old j hj (fun e=>RU (QW e)),h.par u hu rfl⟩
theorem Xx.trans{s}{L L1 L2}{u d}{ks ks'}(hu:u<L.length)(h:Xx s L L1 u d ks)(k:Xx s L1 L2 u d ks'):Xx s L L2 u d (ks++ks'):=by
 refine⟨k.vl,aH h.le k.le,?_,fun j hj RU=>(k.old j (zz007 hj h.le) RU).trans (h.old j hj RU),?_⟩;·exact(h.ch.congr (fun j h1 h2=>k.old j h2 (by omega))).app k.ch
 ·rw[k.par,h.par,bY]
def VQ(s:ByteArray)(u d:Nat)(bn:PS->Except Nat PS):Prop:=∀a b,Vl s a.L->u<a.L.length->bn a=.ok b->b.er=none->a.er=none/\NOk s a.L b.L (u:Int) d
theorem Cj{s}{u d}{bn:PS->Except Nat PS}(back:∀a b,bn a=.ok b->b.er=none->a.er=none)(hn:VQ s u d bn):∀f st cj,Vl s st.L->u<st.L.length->iQ s bn f st=.ok cj->cj.er=none->st.er=none/\∃ks,Xx s st.L cj.L u d ks
 |0,st,cj,h,hu,e,h0=>by cases e
 |f+1,st,cj,h,hu,e,h0=>by
  have bk:∀f st cj,iQ s bn f st=.ok cj->cj.er=none->st.er=none:=by
   intro f;induction f with
   |zero=>intro st cj e;cases e
   |succ f ih=>grind[iQ,aD]
  unfold iQ at e;split at e;·cases e
  ·rename_i eX he;split at e;·have h2:eX.er=none:=bk _ {eX with i:=aD s eX.i 44} _ e h0;obtain⟨q1,q2⟩:=hn _ _ h hu he h2;obtain⟨_,ks,q3⟩:=Cj back hn f {eX with i:=aD s eX.i 44} _ q2.vl (zz121 hu q2.lt) e h0;exact⟨q1,_,(q2.kids hu).trans hu q3⟩
   ·split at e;·cases e
    ·injection e with e;subst e;obtain⟨q1,q2⟩:=hn _ _ h hu he h0;exact⟨q1,_,q2.kids hu⟩
structure BOk(s:ByteArray)(L L':List Nd)(u d:Nat):Prop where
 vl:Vl s L'
 le:L.length<=L'.length
 ch:Ch (ac L') d (ac L' u).kids L.length L'.length
 ok:tu (ac L' u)
 upE:(ac L' u).up=(ac L u).up
 old:∀j:Nat,j<L.length->j≠u->ac L' j=ac L j
theorem Nt{s}{kind u d}{bn:PS->Except Nat PS}(back:∀a b,bn a=.ok b->b.er=none->a.er=none)(hn:VQ s u d bn){st cj}(h:Vl s st.L)(hu:u<st.L.length)(hk:(ac st.L u).kind=kind)(OE:(ac st.L u).kids=[])(e:lk s kind u bn st=.ok cj)(h0:cj.er=none):st.er=none/\BOk s st.L cj.L u d:=by
 have fin:∀{L':List Nd} {ks:List Nat},Xx s st.L L' u d ks->(kind<3\/(3<=kind/\kind<5/\ks.length=1))->BOk s st.L L' u d:=fun{L' ks} q hq=>by
  have ek:(ac L' u).kids=ks:=by rw[q.par,OE];rfl
  have ekd:(ac L' u).kind=kind:=by rw[q.par];exact hk
  refine⟨q.vl,q.le,by rw[ek];exact q.ch,?_,by rw[q.par],q.old⟩;grind[tu]
 have same:5<=kind\/kind<3->BOk s st.L st.L u d:=fun hq=>by refine⟨h,ae _,by rw[OE];exact .nil _ _,?_,rfl,fun _ _ _=>rfl⟩;grind[tu]
 unfold lk at e;split at e
 ·rename_i h3;split at e;·cases e
  ·split at e;·grind
   ·rename_i i2 _ _;obtain⟨q1,ks,q2⟩:=Cj back hn _ {st with i:=sk s i2} _ h hu e h0;grind
 ·rename_i h3;split at e
  ·rename_i h5;split at e;·cases e
   ·split at e;·cases e
    ·rename_i i2 _ _ jZ he;split at e;·cases e
     ·injection e with e;have ZV:jZ.er=none:=by rw[<-e]at h0;exact h0
      obtain⟨q1,q2⟩:=hn {st with i:=i2} jZ h hu he ZV;refine⟨q1,?_⟩;rw[<-e];exact fin (q2.kids hu) (.inr ⟨by omega,h5,rfl⟩)
  ·rename_i h5;split at e
   ·rename_i h6;split at e;·cases e
    ·rename_i i2 t he;injection e with e;subst e;refine⟨h0,h.texted hu (by omega) (UO he),?_,?_,?_,?_,fun j hj RU=>(gH st.L u t j).2.2.2.2.1 RU⟩;·grind[aF]
     ·show Ch (ac (aF st.L u t)) d (ac (aF st.L u t) u).kids st.L.length (aF st.L u t).length;rw[(gH st.L u t u).2.2.1,OE];have:(aF st.L u t).length=st.L.length:=by unfold aF;simp
      rw[this];exact .nil _ _
     all_goals grind[tu,gH]
   grind
theorem xK{s}{bn:PS->Except Nat PS}(back:∀a b,bn a=.ok b->b.er=none->a.er=none):∀f st cj,iQ s bn f st=.ok cj->cj.er=none->st.er=none
 |0,st,cj,e,h0=>by cases e
 |f+1,st,cj,e,h0=>by
  unfold iQ at e;split at e;·cases e
  ·rename_i eX he;split at e;·exact back _ _ he (xK back f {eX with i:=aD s eX.i 44} _ e h0)
   grind
theorem xp{s}{kind u}{bn:PS->Except Nat PS}(back:∀a b,bn a=.ok b->b.er=none->a.er=none){st cj}(e:lk s kind u bn st=.ok cj)(h0:cj.er=none):st.er=none:=by
 unfold lk at e;split at e
 ·split at e;·cases e
  ·split at e;·grind
   ·rename_i i2 _ _;exact xK back _ {st with i:=sk s i2} _ e h0
 grind
theorem mF{s}:∀f  up  depth st cj,js s f up depth st=.ok cj->cj.er=none->st.er=none
 |0,up,depth,st,cj,e,h0=>by cases e
 |f+1,up,depth,st,cj,e,h0=>by
  unfold js at e;dsimp only at e;split at e;·cases e
  ·split at e;·cases e
   ·rename_i i2 eT a he;have h1:=xp (mF f _ _) e h0;exact(dX (dX (tL he h1).1).2).2
theorem CJ{s}:∀f  up  depth st cj,Vl s st.L->up<(st.L.length:Int)->js s f up depth st=.ok cj->cj.er=none->NOk s st.L cj.L up depth
 |0,up,depth,st,cj,h,hp,e,h0=>by cases e
 |f+1,up,depth,st,cj,h,hp,e,h0=>by
  unfold js at e;dsimp only at e;split at e;·cases e
  ·rename_i hkd;split at e;·cases e
   ·rename_i i2 eT a he;have h1:=xp (mF f _ _) e h0;obtain⟨h2,RM⟩:=tL he h1;obtain⟨g1,h3⟩:=dX h2;obtain⟨g2,h4⟩:=dX h3;have g1:depth<12:=by
     have:¬12<=depth:=by simpa using g1
     omega
    have g2:st.L.length<100:=by
     have:¬100<=st.L.length:=by simpa using g2
     omega
    have Ao:=oF (s.extract (sk s st.i) (run aB s (sk s st.i))) eh 0;obtain⟨kd,jd⟩:=af (aJ eh (s.extract (sk s st.i) (run aB s (sk s st.i))) 0);rw[jd]at e Ao hkd RM;have Wu:kd.toNat<7:=by have:eh.length=7:=rfl;rw[this]at Ao;rcases Ao with e|e<;>omega
    obtain⟨d,hd⟩:∃d:Nd,(⟨kd.toNat,a,[],[],up⟩:Nd)=d:=⟨_,rfl⟩;rw[hd]at e;have pQ:Nv d:=by rw[<-hd];exact⟨Wu,RM.len,RM.att,.inl rfl⟩
    have hg:=h.grown pQ (by grind) (by rw[<-hd];exact RM.id) g2;have hl:=eJ st.L d;have hn:=mj st.L d;obtain⟨_,hb⟩:=Nt (d:=depth+1) (mF f _ _) (fun a b ga pa Hn wC=>⟨mF f _ _ _ _ Hn wC,CJ f (st.L.length:Int) (depth+1) a b ga (by omega) Hn wC⟩) (st:={i:=i2,L:=grown st.L d,er:=eT}) hg (by grind) (by grind) (by grind) e h0;have hbl:(grown st.L d).length<=cj.L.length:=hb.le;have hdu:d.up=up:=by rw[<-hd]
    have hbc:Ch (ac cj.L) (depth+1) (ac cj.L st.L.length).kids (grown st.L d).length cj.L.length:=hb.ch;have jj:(ac cj.L st.L.length).up=(ac (grown st.L d) st.L.length).up:=hb.upE;have hbo:∀j:Nat,j<(grown st.L d).length->j≠st.L.length->ac cj.L j=ac (grown st.L d) j:=hb.old;refine⟨hb.vl,by omega,.cons g1 hb.ok (by grind) (.nil _ _),by grind,fun j hj RU=>?_,fun j hj RU=>?_⟩;all_goals grind[iM]
structure gA(s:ByteArray)(L:List Nd):Prop where
 sz:s.size<=4000
 gr:AG L
 pos:0<L.length
 vl:Vl s L
 ch:Ch (ac L) 0 [0] 0 L.length
 up0:(ac L 0).up=-1
theorem eE{s}{L}(h:pf s=.ok L):gA s L:=by
 obtain⟨q1,q2⟩:=De h;unfold pf at h;split at h;·cases h
 ·rename_i hs;split at h;·cases h
  ·rename_i st he;split at h;·cases h
   ·split at h;·cases h
    ·rename_i L4;injection h with h;subst h;have:=CJ _ _ _ _ _ ⟨fun j hj=>absurd hj (by simp),fun j hj=>absurd hj (by simp),fun i j _ hj=>absurd hj (by simp),by simp⟩ (by omega) he L4;exact⟨by omega,q1,q2,this.vl,this.ch,this.upE⟩
def Kn(W:World):Prop:=∀j,j<7->W.cell? (aq 11 j)=some (.string (eh[j]?.getD ByteArray.empty))
theorem Kn.fr{W W'}{B r}(h:Kn W)(f:Fr B r W W')(hB:r<B)(hr:12<=r):Kn W':=fun j hj=>f.cell (h j hj) (by grind) (by grind)
def Mem(W0 W:World)(rb ab B:Nat)(E:Nat->Addr)(s:ByteArray)(st:PS):Prop:=Vx W rb ab B E/\Kn W/\fI s st/\Fr B rb W0 W/\∃nv KV,PR W rb s st.i (Sq ab 12 12) nv (fu E st.er)/\PN W B nv st.L KV
def dH(w w':World)(e:Ending)(rb ab B:Nat)(E:Nat->Addr)(s:ByteArray)(r:Except Nat PS):Prop:=match r with
 |.error b=>e=.panicked [{v:=cD (b:Int) (aT (E 2)),recovered:=false}]/\Fr B rb w w'
 |.ok st=>e=Rw (.tuple #[])/\Mem w w' rb ab B E s st
def GI(rb ab B:Nat)(E:Nat->Addr)(s:ByteArray)(f:Nat):Prop:=∀(up:Int) (depth:Nat) (st:PS) (w0 w:World),Mem w0 w rb ab B E s st->(up=-1\/(0<=up/\up<st.L.length))->depth<=st.i->s.size<f+st.i->
 Cw 59 #[Pq rb,Iq up,Iq (depth:Int)] w fun e w'=>dH w0 w' e rb ab B E s (aG s f up depth st)
theorem Mem.grown{W0 W W'}{rb ab B}{E}{s}{st}{i}(h:Mem W0 W rb ab B E s st)(g:W.grownBy W' (some rb))(hg:fI s {st with i:=i})(hp:∀nv KV,PR W rb s st.i (Sq ab 12 12) nv (fu E st.er)->PN W B nv st.L KV->PR W' rb s i (Sq ab 12 12) nv (fu E st.er)):Mem W0 W' rb ab B E s {st with i:=i}:=by obtain⟨e,k,_,f,nv,KV,p,n⟩:=h;have fr:=Fr.grown (r:=rb) g e.le;exact⟨e.fr fr,k.fr fr e.rbB e.lo,hg,f.trans fr,nv,KV,hp nv KV p n,n.up (Up.grown g e.rbB)⟩
theorem qt{W0 W}{rb ab B}{E}{s}{st}(c:Nat)(h:Mem W0 W rb ab B E s st)(hs:s.size<=1073741824)(hc:c<256):
 Cw 113 #[Pq rb,.int .u8 (c:Int)] W fun e w'=>e=Rw (.bool (a_ s st.i c))/\Mem W0 w' rb ab B E s {st with i:=aD s st.i c}:=by obtain⟨e,k,g,f,nv,KV,p,n⟩:=h;refine(mM rb s st.i _ nv _ c W p (by omega) g.il hc).mono ?_;rintro e' w' ⟨rfl,h1,g1⟩;have fr:=Fr.grown (r:=rb) g1 e.le;exact⟨rfl,e.fr fr,k.fr fr e.rbB e.lo,g.at hc,f.trans fr,nv,KV,h1,n.up (Up.grown g1 e.rbB)⟩
theorem ep{W0 W}{rb ab B}{E}{s}{st}(c:Nat)(h:Mem W0 W rb ab B E s st)(hs:s.size<=1073741824)(hc:c<256):
 Cw 116 #[Pq rb,.int .u8 (c:Int)] W fun e w'=>dH W0 w' e rb ab B E s (dA s st c):=by
 obtain⟨e,k,g,f,nv,KV,p,n⟩:=h;unfold dA;by_cases hq:a_ s st.i c=true;·rw[if_pos hq];refine(iL rb s st.i _ nv _ c W p (by omega) g.il hc hq).mono ?_;rintro e' w' ⟨rfl,h1,g1⟩;have fr:=Fr.grown (r:=rb) g1 e.le;exact⟨rfl,e.fr fr,k.fr fr e.rbB e.lo,g.at hc,f.trans fr,nv,KV,h1,n.up (Up.grown g1 e.rbB)⟩
 ·rw[if_neg hq];have lo:=e.lo;refine(jS rb s st.i _ nv _ (E 2) c W p (by omega) g.il hc (by grind) (by omega) e.g2).mono ?_;rintro e' w' ⟨rfl,g1⟩;exact⟨rfl,f.trans (Fr.grown g1 e.le)⟩
theorem Mem.prI{W0 W:World}{rb ab B:Nat}{E:Nat->Addr}{s:ByteArray}{st:PS}(h:Mem W0 W rb ab B E s st):prI W rb=st.i:=by obtain⟨e,k,g,f,nv,KV,p,n⟩:=h;exact p.prI
theorem rI(rb ab B:Nat)(E:Nat->Addr)(s:ByteArray)(f:Nat)(hnode:GI rb ab B E s f)(hs:s.size<=1073741824)(up:Nat)(depth:Nat)(st:PS)(w0 w:World)(h:Mem w0 w rb ab B E s st)(hup:up<st.L.length)(hd:depth<=st.i)(hf:s.size<f+st.i):
 Cw 117 #[Pq rb,Iq (up:Int),Iq (depth:Int)] w fun e w'=>dH w0 w' e rb ab B E s (gU s (aG s f (up:Int) depth) st):=by
 have HN:=qH<|hnode;have CX:Hid (Cw 116 #[Pq rb,.int .u8 91] w fun e w'=>dH w0 w' e rb ab B E s (dA s st 91)):=ep 91 h hs (by omega);by_cases hq:a_ s st.i 91=true
 ·have e1:dA s st 91=.ok {st with i:=aD s st.i 91}:=by unfold dA;rw[if_pos hq]
  rw[e1]at CX;have HP:Hid (gU s (aG s f (up:Int) depth) st=if a_ s (aD s st.i 91) 93=true then .ok {st with i:=aD s (aD s st.i 91) 93}else ig s (aG s f (up:Int) depth) (s.size+1) {st with i:=aD s (aD s st.i 91) 93}):=by show _=_;unfold gU;rw[if_pos hq]
  have Ap:=cY s st.i 91;have lz:=cY s (aD s st.i 91) 93;obtain⟨R,hR⟩:=af (gU s (aG s f (up:Int) depth) st);rw[hR]at HP⊢;clear h hnode hR e1 hq;go_enter func117,ntmps117;go_wp2_with fail;refine CX.mono ?_;rintro e w1 ⟨rfl,h1⟩;have CT:Hid (Cw 113 #[Pq rb,.int .u8 93] w1 fun e w'=>e=Rw (.bool (a_ s (aD s st.i 91) 93))/\Mem w0 w' rb ab B E s {st with i:=aD s (aD s st.i 91) 93}):=qt 93 h1 hs (by omega);clear h1 CX;by_cases nT:a_ s (aD s st.i 91) 93=true
  ·have gI:Hid (R=.ok {st with i:=aD s (aD s st.i 91) 93}):=by show _=_;rw[HP.out,if_pos nT]
   rw[nT]at CT;clear HP nT;go_wp2_with fail;refine CT.mono ?_;rintro e w2 ⟨rfl,h2⟩;have HM:=qH<|h2;clear h2 CT;go_wp2;try simp only[Exit.inBlock,Exit.then]
   refine bodyPost_ret (results_none rfl _ _ _) rfl ?_;show dH _ _ _ _ _ _ _ _ _;rw[gI.out];exact⟨rfl,HM⟩
  ·have gI:Hid (ig s (aG s f (up:Int) depth) (s.size+1) {st with i:=aD s (aD s st.i 91) 93}=R):=by show _=_;rw[HP.out,if_neg nT]
   rw[show a_ s (aD s st.i 91) 93=false by grind]at CT;clear HP nT;obtain⟨cC,lB⟩:∃z:PS,{st with i:=aD s (aD s st.i 91) 93}=z:=⟨_,rfl⟩;have k1:st.i<=cC.i:=by rw[<-lB];exact aH Ap lz
   have k2:cC.L.length=st.L.length:=by rw[<-lB]
   rw[lB]at CT gI;clear lB Ap lz;go_wp2_with fail;refine CT.mono ?_;rintro e w2 ⟨rfl,h2⟩;have HM:=qH<|h2;clear h2 CT;go_wp2;go_loopw[6] (fun b wr=>∃(eX:PS) (g:Nat) (m:Bool),b=.bool m/\Hid (Mem w0 wr rb ab B E s eX)/\st.i<=eX.i/\st.L.length<=eX.L.length/\s.size<g+eX.i/\Hid ((if m=true then ig s (aG s f (up:Int) depth) g eX else dA s eX 93)=R)) (fun b wr=>2*(s.size-prI wr rb)+(match b with|.bool true=>1|_=>0));case atStart=>grind
   case round=>
    clear HM gI k1 k2;obtain⟨eX,g,m,rfl,HS,qi,uu,hg,qU⟩:=hrel;have HI:=qH<|HS.prI;have zoe:=HS.2.2.1.il;cases m with
    |true=>
     obtain⟨g,rfl⟩:∃q,g=q+1:=⟨g-1,by omega⟩;have CN:=qH<|HN (up:Int) depth eX w0 wr HS (.inr ⟨by omega,by omega⟩) (by omega) (by omega);cases hp:aG s f (up:Int) depth eX with
     |error b=>
      have gI:Hid (R=.error b):=by show _=_;rw[<-qU.out];simp only[if_true];unfold ig;rw[hp]
      rw[hp]at CN;clear hp qU;go_wp2_with fail;refine CN.mono ?_;rintro e w3 ⟨rfl,f3⟩;refine⟨rfl,?_⟩;rw[gI.out];exact⟨rfl,f3⟩
     |ok jZ=>
      obtain⟨q1,q2,q3⟩:=Cz f (up:Int) depth eX jZ (by omega) HS.2.2.1 hp;have q4:=q1.good.il;have gI:Hid ((if a_ s jZ.i 44=true then ig s (aG s f (up:Int) depth) g {jZ with i:=aD s jZ.i 44}else dA s {jZ with i:=aD s jZ.i 44} 93)=R):=by
       show _=_;rw[<-qU.out];simp only[if_true];conv=>rhs;unfold ig
       rw[hp]
      rw[hp]at CN;clear hp qU q1;go_wp2_with fail;refine CN.mono ?_;rintro e w3 ⟨rfl,h3⟩;have CT:Hid (Cw 113 #[Pq rb,.int .u8 44] w3 fun e w'=>e=Rw (.bool (a_ s jZ.i 44))/\Mem w0 w' rb ab B E s {jZ with i:=aD s jZ.i 44}):=qt 44 h3 hs (by omega);have hg3:=cY s jZ.i 44;have hg4:=fT (s:=s) (i:=jZ.i) (c:=44) (by omega) q4;obtain⟨m',_k⟩:=af (a_ s jZ.i 44);obtain⟨st4,TI⟩:∃z:PS,{jZ with i:=aD s jZ.i 44}=z:=⟨_,rfl⟩;have k1:st4.i=aD s jZ.i 44:=by rw[<-TI]
      have k2:st4.L.length=jZ.L.length:=by rw[<-TI]
      rw[_k,TI]at CT gI;clear h3 CN TI _k;go_wp2_with fail;refine CT.mono ?_;rintro e w4 ⟨rfl,h4⟩;have HM4:=qH<|h4;have HI4:=qH<|h4.prI;clear h4 CT;go_wp2;go_roundw;case rel=>grind
      case measure=>rw[HI4.out,HI.out];grind
    |false=>
     have CX:Hid (Cw 116 #[Pq rb,.int .u8 93] wr fun e w'=>dH w0 w' e rb ab B E s (dA s eX 93)):=ep 93 HS hs (by omega);have gI:Hid (dA s eX 93=R):=by show _=_;have:=qU.out;simpa using this
     rw[gI.out]at CX;clear qU gI;cases R with
     |error b=>go_wp2_with fail;refine CX.mono ?_;rintro e w3 ⟨rfl,f3⟩;exact⟨rfl,rfl,f3⟩
     |ok jZ=>go_wp2_with fail;refine CX.mono ?_;rintro e w3 ⟨rfl,h3⟩;have Jo:=qH<|h3;clear h3 CX;go_wp2;go_end0;exact⟨rfl,Jo⟩
 ·have e1:dA s st 91=.error (sk s st.i):=by unfold dA;rw[if_neg hq]
  have HP:Hid (gU s (aG s f (up:Int) depth) st=.error (sk s st.i)):=by show _=_;unfold gU;rw[if_neg hq]
  rw[e1]at CX;clear h hnode e1 hq;go_enter func117,ntmps117;go_wp2_with fail;refine CX.mono ?_;rintro e w1 ⟨rfl,f1⟩;refine⟨rfl,?_⟩;rw[HP.out];exact⟨rfl,f1⟩
