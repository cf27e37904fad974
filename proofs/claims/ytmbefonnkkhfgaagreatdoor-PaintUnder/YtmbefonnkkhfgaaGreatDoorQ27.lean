import Derived.Test.YtmbefonnkkhfgaaGreatDoorQ00
import Derived.Test.YtmbefonnkkhfgaaGreatDoorQ10
import Derived.Test.YtmbefonnkkhfgaaGreatDoorQ25
import Derived.Deep.RegionLaw
import Derived.Deep.Cut
import Derived.Deep.CutRange
import Derived.Deep.RegionWith
import Derived.Laws.EntriesVeiled
import Derived.Test.YtmbefonnkkhfgaaGreatDoorQ07
import Derived.Test.YtmbefonnkkhfgaaGreatDoorQ08
import Derived.Laws.ResultCell
set_option linter.unusedVariables false
set_option maxRecDepth 100000
set_option maxHeartbeats 16000000
namespace Go.Proofs.YtmbefonnkkhfgaaGreatDoor
section
open Go.RowKit Go.Proofs.Tryz
theorem step_append_at{P:Program}{ops:Array Oper}{o:Oper}{a:Act}{w:World}{K:Act->World->Prop}{Q:Exit->Act->World->Prop}{E:Prop}
 (hg:o.guard=none) (s x:Operand) (t:TypeId) (hop:o.op=Op.call {callee:=Callee.builtin Builtin.append,args:=#[s,x],argTypes:=#[t,t]})
 (base:Nat) (e:TypeId) (i:TypeInfo) (z:Value) (size bytes:Nat) (h1:P.underlying t=some (.slice e)) (h2:P.info? e=some i) (h3:i.zero=some z) (h4:i.size=size) (h5:i.bytes=bytes) (h6:z.cells.size=size) (h7:0<size)
 (v:Value) (n:Nat) (olds:List Value) (hs:a.eval s=v) (hown:w.ownsRow base e size v n olds)
 (ad:Addr) (m c:Nat) (news:List Value) (hx:a.eval x=.slice (some ad) m c) (hn:news.length=m*size) (hc:∀j u,news[j]?=some u->w.cell? (ad.add j)=some u) (h1c:∀u∈news,u.oneCell'=true)
 (b1:n+m≤maxLen) (b2:(n+m)*bytes≤140737488355328) (b3:base≤w.heap.size)
 (hK:∀v' w',w'.ownsRow base e size v' (n+m) (olds++news)->w.grownBy w' v.ownBlock->(v'.ownBlock=v.ownBlock∨v'.ownBlock=some w.heap.size)->K (a.put o.dst v') w'):
 if Region.wanted o (yielded ops a.tmps)=true then Oper.wp P o a w K Q else E:=by
 have hw:Region.wanted o (yielded ops a.tmps)=true:=by simp[Region.wanted,hg]
 rw[if_pos hw];obtain⟨v',w',hrun,r1,r2,_,r3⟩:=run_append_own_at (P:=P) w base t o.type e i z size bytes h1 h2 h3 h4 h5 h6 h7 v n olds hown ad m c news hn hc h1c b1 b2 b3;unfold Oper.wp;simp[execOp,hop,resolve,invoke,builtin,hs,hx,hrun,Result.andThen];exact hK v' w' r1 r2 r3
theorem infoNode:(prog.info? 61).map (fun i=>(i.zero,i.size,i.bytes))=some (some (.agg #[Iq 0,Iq 0,Iq 0,Iq 0,Iq 0,Iq 0,Iq 0,Iq 0,Iq 0,Iq 0,Iq 0,Iq 0,Iq 0,.string ⟨#[]⟩,.slice none 0 0,Iq 0]),16,152):=by kernel_rfl
theorem own_slice{W:World}{B n size:Nat}{e:TypeId}{v:Value}{xs:List Value}(h:W.ownsRow B e size v n xs):∃p c,v=.slice p n c:=by
 rcases own_form h with⟨rfl,rfl⟩|⟨g,cap,rfl,_⟩;·exact⟨_,_,rfl⟩
 ·exact⟨_,_,rfl⟩
theorem cells_new(w:World)(cs:Array Value)(T:TypeId)(xs:List Value)(h:cs.toList=xs):∀j u,xs[j]?=some u->(w.alloc (.cells cs T)).cell? ((⟨w.heap.size,0,none⟩:Addr).add j)=some u:=by
 intro j u hu;have e:(⟨w.heap.size,0,none⟩:Addr).add j=⟨w.heap.size,0+j,none⟩:=by unfold Addr.add;split<;>simp_all
 rw[e,Nat.zero_add,World.cell?_alloc_at _ _ _ _ rfl,<-hu,<-h];simp
theorem one_pn(d:Nd)(p:Option Addr)(n c:Nat):∀u∈pnCells d (.slice p n c),u.oneCell'=true:=by intro u hu;unfold pnCells at hu;simp at hu;rcases hu with rfl|⟨x,_,rfl⟩|rfl|rfl|rfl<;>rfl
theorem PR.far{W W1:World}{o:Option Nat}{rb B:Nat}{s:ByteArray}{i:Nat}{av nv fv:Value}(h:PR W rb s i av nv fv)(hg:W.grownBy W1 o)(ho:∀g,o=some g->B≤g)(hr:rb<B):PR W1 rb s i av nv fv:=by have hb:=hg.block rb h.lt (fun e=>by have:=ho rb e.symm;omega);have k:∀j,W1.cell? ⟨rb,j,none⟩=W.cell? ⟨rb,j,none⟩:=fun j=>World.cell?_of_block hb;exact⟨Nat.lt_of_lt_of_le h.lt hg.size,(k 0).trans h.c0,(k 1).trans h.c1,(k 2).trans h.c2,(k 3).trans h.c3,(k 4).trans h.c4,fun j=>(World.frozen?_of_block hb).trans (h.fz j)⟩
theorem PR.setN{W:World}{rb:Nat}{s:ByteArray}{i:Nat}{av nv fv:Value}(h:PR W rb s i av nv fv)(nv':Value):PR (W.setCell ⟨rb,3,none⟩ nv') rb s i av nv' fv:=
 ⟨by simpa using h.lt,rs_other (by omega) h.c0,rs_other (by omega) h.c1,rs_other (by omega) h.c2,rs_same h.c3,rs_other (by omega) h.c4,fun j=>by rw[World.frozen?_setCell];exact h.fz j⟩
theorem Up.set{B b o:Nat}(W:World)(hb:b<B)(v:Value):Up B W (W.setCell ⟨b,o,none⟩ v):=⟨by simp,fun k h1 h2=>Below.heap_setCell W ⟨b,o,none⟩ v k (by show k≠b;omega)⟩
theorem Fr.set{B r o:Nat}(W:World)(v:Value):Fr B r W (W.setCell ⟨r,o,none⟩ v):=⟨rfl,rfl,rfl,by simp,fun k h1 h2=>Below.heap_setCell W ⟨r,o,none⟩ v k h2⟩
theorem tinfoInt:(prog.info? 3).map (fun i=>(i.zero,i.size,i.bytes))=some (some (Iq 0),1,8):=by kernel_rfl
def AddOut(w w':World)(rb B:Nat)(s:ByteArray)(i:Nat)(av fv:Value)(L:List Nd):Prop:=∃nv KV,PR w' rb s i av nv fv∧PN w' B nv L KV∧Fr B rb w w'∧B≤w'.heap.size
theorem below_drewN'{B:Nat}{w w':World}(h:Below B w w')(q:Nat):Below B w (w'.drewN q):=⟨h.os,h.tape,h.output,h.size,h.block⟩
theorem below_set'{B b o:Nat}{w w':World}(h:Below B w w')(hb:B≤b)(v:Value):Below B w (w'.setCell ⟨b,o,none⟩ v):=
 ⟨h.os,h.tape,h.output,by simpa using h.size,fun k hk=>(Below.heap_setCell w' ⟨b,o,none⟩ v k (by show k≠b;omega)).trans (h.block k hk)⟩
theorem add_kid{w wc w3:World}{rb B g n1 c' j c:Nat}{s:ByteArray}{i:Nat}{av fv v':Value}{L1:List Nd}{KV1:Nat->Value}{pk:Option Addr}{ck:Nat}{ks:List Nat}
 (hp:PR w3 rb s i av (Sq g n1 c') fv) (hn:PN wc B (Sq g n1 c') L1 KV1) (hl:L1.length=n1) (hf:Fr B rb w wc) (hB:B≤wc.heap.size) (hrb:rb<B) (hBg:B≤g) (hj:j<n1)
 (hk:KV1 j=.slice pk ks.length ck) (hks:(nth L1 j).kids=ks) (o:Obj) (ho:w3.ownsRow B 3 1 v' (ks.length+1) (kInts ks++[Iq (c:Int)])) (hg:((wc.alloc o).drew).grownBy w3 (Value.slice pk ks.length ck).ownBlock)
 (hat:v'.ownBlock=(Value.slice pk ks.length ck).ownBlock∨v'.ownBlock=some ((wc.alloc o).drew).heap.size):
 AddOut w (w3.setCell ⟨g,j*16+14,none⟩ v') rb B s i av fv (L1.modify j fun u=>{u with kids:=u.kids++[c]}):=by subst hl;have hkr:=hn.nr.kids j hj;rw[hk]at hkr;have hB1:Below wc.heap.size wc (wc.alloc o).drew:=below_drewN' ((Below.refl wc.heap.size wc).alloc (Nat.le_refl _) o) 1;have HN4:=hn.up (Up.below (B:=B) hB1);have HN5:=HN4.kid (k:=j) (c:=c) (W':=w3) (kv':=v') hj (by rw[hks];simpa[kInts]using ho) (by rw[hk];exact hg) (by rw[hk];exact hat);have HF3:Fr B rb wc w3:=(Fr.below hB1 hB).trans (Fr.own hg (Nat.le_trans hB hB1.size) (fun g e=>(hkr.lt g e).1));have HF4:Fr B rb w3 (w3.setCell ⟨g,j*16+14,none⟩ v'):=Fr.own (gr_set w3 g _ _) (Nat.le_trans hB HF3.size) (fun q e=>by injection e with e;omega);exact⟨_,_,PR.far hp (gr_set w3 g _ _) (fun q e=>by injection e with e;omega) hrb,HN5,hf.trans (HF3.trans HF4),by have:=HF3.size;have:=HF4.size;omega⟩
def AddMid(w w':World)(rb B:Nat)(s:ByteArray)(i:Nat)(av fv:Value)(L:List Nd)(KV:Nat->Value):Prop:=∃p c,PR w' rb s i av (.slice p L.length c) fv∧PN w' B (.slice p L.length c) L (fun j=>if j=L.length-1 then .slice none 0 0 else KV j)∧Fr B rb w w'∧B≤w'.heap.size
def addC(kind:Nat)(up:Int)(k t:Nat):Value:=if t=0 then Iq (kind:Int)else if t≤k then Iq (woAt (t-1))else if t≤12 then Iq 0 else if t=13 then .string ⟨#[]⟩else if t=14 then .slice none 0 0 else Iq up
theorem addC_new{kind:Nat}{up:Int}{k:Nat}(hk:k<12):addC kind up (k+1) (k+1)=Iq (woAt k):=by unfold addC;rw[if_neg (by omega),if_pos (by omega),show k+1-1=k by omega]
theorem addC_old{kind:Nat}{up:Int}{k t:Nat}(h:t≠k+1):addC kind up (k+1) t=addC kind up k t:=by
 unfold addC;by_cases h0:t=0;·rw[if_pos h0,if_pos h0]
 ·rw[if_neg h0,if_neg h0];by_cases h1:t≤k;·rw[if_pos h1,if_pos (by omega)]
  ·rw[if_neg h1,if_neg (by omega)]
theorem addC_first{kind:Nat}{up:Int}{w:World}{T:TypeId}(t:Nat)(ht:t<16):(w.alloc (.cells #[Iq (kind:Int),Iq 0,Iq 0,Iq 0,Iq 0,Iq 0,Iq 0,Iq 0,Iq 0,Iq 0,Iq 0,Iq 0,Iq 0,.string ⟨#[]⟩,.slice none 0 0,Iq up] T)).cell? ⟨w.heap.size,t,none⟩=some (addC kind up 0 t):=by
 rw[World.cell?_alloc_at _ _ _ _ rfl];have:t=0∨t=1∨t=2∨t=3∨t=4∨t=5∨t=6∨t=7∨t=8∨t=9∨t=10∨t=11∨t=12∨t=13∨t=14∨t=15:=by omega
 rcases this with rfl|rfl|rfl|rfl|rfl|rfl|rfl|rfl|rfl|rfl|rfl|rfl|rfl|rfl|rfl|rfl<;>rfl
theorem addNode_any(rb ab B:Nat)(s:ByteArray)(i:Nat)(nv fv:Value)(L:List Nd)(KV:Nat->Value)(kind:Nat)(up:Int)(w:World)(h:PR w rb s i (Sq ab 12 12) nv fv)(hn:PN w B nv L KV)(ht:Tab w ab)(hrb:rb<B)(hab:ab<B)(hne:ab≠rb)(hB:B≤w.heap.size)(hL:L.length≤100000)(hup:up=-1∨(0≤up∧up<L.length))(hkl:∀j ks,j<L.length->(nth L j).kids=ks->ks.length≤100000000):
 Calls prog 112 #[Pq rb,Iq (kind:Int),Iq up] w fun e w'=>e=.returned (Iq (L.length:Int))∧AddOut w w' rb B s i (Sq ab 12 12) fv (grown L ⟨kind,withoutL,[],[],up⟩):=by
 obtain⟨pn,cn,rfl⟩:∃p c,nv=.slice p L.length c:=own_slice hn.nr.row.choose_spec;have HR:=qH<|h;have HN:=qH<|hn;have HT:=qH<|ht;have c2:=h.c2;have hrl:=h.lt;have hal:=ht.lt;obtain⟨i0,hi,hz0,hz1,hz2⟩:=info_parts infoNode;clear h hn ht;go_enter func112,ntmps112;go_wp2;go_loopw[19] (fun v wr=>∃k:Nat,v=Iq (k:Int)∧k≤12∧w.heap.size<wr.heap.size∧Hid (Below w.heap.size w wr)∧Hid (∀t,t<16->wr.cell? ⟨w.heap.size,t,none⟩=some (addC kind up k t)∧wr.frozen? ⟨w.heap.size,t,none⟩=false)) (fun v _=>12-(intOf v).toNat);case atStart=>exact⟨0,rfl,by omega,by simp,(Below.refl _ _).alloc (Nat.le_refl _) _,fun t ht=>⟨addC_first t ht,frozen_of_row _ _ _ _ _ (heap_alloc_new _ _)⟩⟩
 case round=>
  obtain⟨k,rfl,hk,hsz,HB,HC⟩:=hrel;by_cases hlt:k<12
  ·have hlt':(k:Int)<12:=by omega
   have hT:=HT.fr (Fr.below (r:=rb) HB (Nat.le_refl _)) hal hne;obtain⟨t0,t1,t2,t3,t4,t5⟩:=hT.at hlt;have hT2:=hT.lt;obtain⟨d1,f1⟩:=HC (k+1) (by omega);have HQ:=qH<|in_at k hlt;obtain⟨g,hg⟩:=nmd (fnAt k);obtain⟨a0,h0⟩:=nmd (nmAt k);obtain⟨a1,h1⟩:=nmd (kdAt k);obtain⟨a2,h2⟩:=nmd (moAt k);obtain⟨a3,h3⟩:=nmd (woAt k);obtain⟨a4,h4⟩:=nmd (sgAt k);rw[h0]at t0;rw[h1]at t1;rw[h2]at t2;rw[h3]at t3;rw[h4]at t4;rw[hg]at t5 HQ;have H3:=qH<|h3;obtain⟨x1,hx1⟩:=nmd (addC kind up k (k+1));rw[hx1]at d1;have eg:=HQ.1;clear h0 h1 h2 h3 h4 hg hT hx1;go_wp2_with fail;go_region_with(go_at_fn g;refine(HQ.2 _ _ _).mono ?_;rintro e w2 ⟨rfl,rfl⟩);all_goals
    go_wp2;go_roundw;case rel=>
     refine⟨k+1,by go_num,by omega,by simp;omega,?_,fun t ht=>?_⟩;·exact below_drewN' (Below.alloc (below_set' HB (Nat.le_refl _) _) (by simp;omega) _) 1
     ·have hb:∀(o:Obj) (u:Value),(((wr.setCell ⟨w.heap.size,k+1,none⟩ u).alloc o).drew).heap[w.heap.size]?=(wr.setCell ⟨w.heap.size,k+1,none⟩ u).heap[w.heap.size]?:=fun o u=>by show((wr.setCell ⟨w.heap.size,k+1,none⟩ u).alloc o).heap[w.heap.size]?=_;exact heap_alloc_old _ _ (by simp;omega)
      refine⟨?_,?_⟩
      ·rw[World.cell?_of_block (hb _ _)];by_cases e:t=k+1;·subst e;rw[rs_same (HC (k+1) ht).1,addC_new hlt,H3.out]
       ·rw[rs_other e (HC t ht).1,addC_old e]
      ·rw[World.frozen?_of_block (hb _ _),World.frozen?_setCell];exact(HC t ht).2
    case measure=>simp[intOf];omega
  ·obtain rfl:k=12:=by omega
   have n0:wr.cell? ⟨w.heap.size,0,none⟩=some (Iq (kind:Int)):=(HC 0 (by omega)).1;have n1:wr.cell? ⟨w.heap.size,1,none⟩=some (Iq 0):=(HC 1 (by omega)).1;have n2:wr.cell? ⟨w.heap.size,2,none⟩=some (Iq 0):=(HC 2 (by omega)).1;have n3:wr.cell? ⟨w.heap.size,3,none⟩=some (Iq (-1)):=(HC 3 (by omega)).1;have n4:wr.cell? ⟨w.heap.size,4,none⟩=some (Iq 1):=(HC 4 (by omega)).1;have n5:wr.cell? ⟨w.heap.size,5,none⟩=some (Iq 0):=(HC 5 (by omega)).1;have n6:wr.cell? ⟨w.heap.size,6,none⟩=some (Iq 0):=(HC 6 (by omega)).1;have n7:wr.cell? ⟨w.heap.size,7,none⟩=some (Iq 1):=(HC 7 (by omega)).1;have n8:wr.cell? ⟨w.heap.size,8,none⟩=some (Iq 0):=(HC 8 (by omega)).1;have n9:wr.cell? ⟨w.heap.size,9,none⟩=some (Iq 1):=(HC 9 (by omega)).1;have n10:wr.cell? ⟨w.heap.size,10,none⟩=some (Iq 0):=(HC 10 (by omega)).1;have n11:wr.cell? ⟨w.heap.size,11,none⟩=some (Iq 0):=(HC 11 (by omega)).1;have n12:wr.cell? ⟨w.heap.size,12,none⟩=some (Iq 0):=(HC 12 (by omega)).1;have n13:wr.cell? ⟨w.heap.size,13,none⟩=some (.string ⟨#[]⟩):=(HC 13 (by omega)).1;have n14:wr.cell? ⟨w.heap.size,14,none⟩=some (.slice none 0 0):=(HC 14 (by omega)).1;have n15:wr.cell? ⟨w.heap.size,15,none⟩=some (Iq up):=(HC 15 (by omega)).1;have HR1:=qH<|HR.belowB HB hrl;have HN1:=qH<|HN.up (Up.below HB);have r3:=HR1.c3;have hrl2:=HR1.lt;have hrn:rb≠wr.heap.size:=by omega
   obtain⟨xs,hxs⟩:=HN1.nr.row;have HX:=qH<|hxs;clear hxs c2;go_wp2_with fail;go_cut[10]from 35 to 44 (fun v wx=>v=Iq (L.length:Int)∧Hid (AddMid w wx rb B s i (Sq ab 12 12) fv (L++[⟨kind,withoutL,[],[],up⟩]) KV));case first=>
    go_region_law(refine step_append_at rfl (.tmp 39) (.tmp 41) 47 rfl B 61 i0 _ 16 152 underlying47 hi hz0 hz1 hz2 rfl (by decide) (.slice pn L.length cn) L.length xs (by simp[Act.eval]) (World.ownsRow.alloc (w:=wr.drew) HX _) _ 1 1 (pnCells ⟨kind,withoutL,[],[],up⟩ (.slice none 0 0)) (by simp[Act.eval]) rfl (cells_new _ _ _ _ rfl) (one_pn _ _ _ _) (by unfold maxLen;omega) (by omega) (by simp;omega) ?_;intro v' w1 hown' hg hat;obtain⟨p',c',hv'⟩:=own_slice hown';subst hv';have HP1:=qH<|PR.far ((HR1.drewN 1).below ((Below.refl _ _).alloc (Nat.le_refl _) _)) hg (fun g e=>(HX.lt g e).1) hrb;have k3:=HP1.c3;have kf:=HP1.fz 3);all_goals
     have hzr:=HB.size;have HN2:=qH<|PN.app (HN1.up (Up.below (below_drewN' ((Below.refl _ _).alloc (by simp) _) 1))) (World.ownsRow.alloc (w:=wr.drew) HX _) hown' hg rfl rfl;have HF1:Hid (Fr B rb w w1):=(Fr.below HB hB).trans ((Fr.below (below_drewN' ((Below.refl wr.heap.size wr).alloc (by simp) _) 1) (by omega)).trans (Fr.own hg (by simp;omega) (fun g e=>(HX.lt g e).1)));obtain⟨w2,hw2⟩:=nmd (w1.setCell ⟨rb,3,none⟩ (.slice p' (L.length+1) c'));have HP2:Hid (PR w2 rb s i (Sq ab 12 12) (.slice p' (L.length+1) c') fv):=by rw[<-hw2];exact HP1.setN _
     have HN3:Hid (PN w2 B (.slice p' (L.length+1) c') (L++[⟨kind,withoutL,[],[],up⟩]) (fun j=>if j=L.length then .slice none 0 0 else KV j)):=by rw[<-hw2];exact HN2.up (Up.set _ hrb _)
     have HF2:Hid (Fr B rb w w2):=by rw[<-hw2];exact HF1.trans (Fr.set _ _)
     have hB2:B≤w2.heap.size:=by have:=HF2.size;omega
     rw[hw2];clear hg hown' hat k3 kf HP1 HN2 HF1 HX HN1 HR1 r3 hrl2 hrn n0 n1 n2 n3 n4 n5 n6 n7 n8 n9 n10 n11 n12 n13 n14 n15 HC HB;have HM:Hid (AddMid w w2 rb B s i (Sq ab 12 12) fv (L++[⟨kind,withoutL,[],[],up⟩]) KV):=⟨p',c',by simpa using HP2.out,by simpa using HN3.out,HF2,hB2⟩;go_wp2;go_meet;exact⟨rfl,HM⟩
   case rest=>
    obtain⟨rfl,HM⟩:=hcut;clear n0 n1 n2 n3 n4 n5 n6 n7 n8 n9 n10 n11 n12 n13 n14 n15 HX HN1 HR1 r3 hrl2 hrn HC HB HR HN HT;obtain⟨L1,hL1⟩:=nmd (L++[(⟨kind,withoutL,[],[],up⟩:Nd)]);rw[hL1]at HM;have hl1:L1.length=L.length+1:=by rw[<-hL1];simp
    obtain⟨p',c',hp2,hn3,hf2,hB2⟩:=HM.out;rw[hl1]at hp2 hn3;have HP2:=qH<|hp2;have HF2:=qH<|hf2;rcases hup with rfl|⟨hu0,hu1⟩
    ·have HO:Hid (AddOut w wc rb B s i (Sq ab 12 12) fv (grown L ⟨kind,withoutL,[],[],-1⟩)):=by
      have hgr:grown L ⟨kind,withoutL,[],[],-1⟩=L1:=by unfold grown;rw[if_pos (by show(-1:Int)<0;decide)];exact hL1
      rw[hgr];exact⟨_,_,hp2,hn3,hf2,hB2⟩
     clear hn3 hp2 hf2 HM;go_wp2;go_ret;exact⟨rfl,HO⟩
    ·obtain⟨j,rfl⟩:∃j:Nat,up=(j:Int):=⟨up.toNat,by omega⟩;have hj:j<L.length:=by omega
     have HGE:Hid (grown L ⟨kind,withoutL,[],[],(j:Int)⟩=L1.modify j fun u=>{u with kids:=u.kids++[L.length]}):=by show _=_;rw[<-hL1];exact grown_eq L _ j rfl hj
     have hkj:(nth L1 j).kids.length≤100000000:=by rw[<-hL1,nth_app_old hj];exact hkl j _ hj rfl
     obtain⟨KV1,hKV1⟩:=nmd (fun(q:Nat)=>if q=L.length+1-1 then Value.slice none 0 0 else KV q);rw[hKV1]at hn3;clear hKV1 hL1 HM;obtain⟨g,cap,hv,hBg,hgl,_,_⟩:=hn3.nr.form (by omega);simp only[hl1,Value.slice.injEq,true_and]at hv;obtain⟨rfl,rfl⟩:=hv;have hjl:j<L1.length:=by omega
     have hkr:=hn3.nr.kids j hjl;have hlen:=hn3.len j hjl;obtain⟨pk,ck,hk⟩:=own_slice hkr;obtain⟨ks,hks⟩:=nmd ((nth L1 j).kids);rw[hk,hks]at hkr;rw[hks]at hk hkj;have HKR:=qH<|hkr;have e14:wc.cell? ⟨g,j*16+14,none⟩=some (.slice pk ks.length ck):=by rw[<-hk];exact hn3.nr.cells g rfl j hjl 14 (KV1 j) (pn_kids hlen)
     have HGne:Hid (some g≠(Value.slice pk ks.length ck).ownBlock):=by
      obtain⟨ys,hys⟩:=hn3.nr.row;rcases own_apart (v':=Sq g (L.length+1) c') hkr hys (by decide)with e|e;·show some g≠_;rw[e];simp
      ·exact fun e2=>e e2.symm
     have hgr:g≠rb:=by omega
     have f14:wc.frozen? ⟨g,j*16+14,none⟩=false:=hn3.nr.frz rfl (j*16+14);have d3:=hp2.c3;have hj1:(j:Int)<((L.length+1:Nat):Int):=by omega
     have hj2:(j:Int)<(L.length:Int)+1:=by omega
     have ejn:((j:Int)!=-1)=true:=by rw[bne_iff_ne];omega
     have hrl3:=hp2.lt;have HN3:=qH<|hn3;have HHK:=qH<|hk;have HKS:=qH<|hks;have HL1:=qH<|hl1;obtain⟨i1,hi1,hy0,hy1,hy2⟩:=info_parts tinfoInt;clear hkr hn3 hk hks hp2 hf2 hlen hl1;go_wp2_with fail;go_cut[10]from 47 to 64 (fun v wx=>v=Iq (L.length:Int)∧Hid (AddOut w wx rb B s i (Sq ab 12 12) fv (grown L ⟨kind,withoutL,[],[],(j:Int)⟩)));case first=>
      go_region_law(refine step_append_at rfl (.tmp 59) (.tmp 61) 59 rfl B 3 i1 (Iq 0) 1 8 underlying59 hi1 hy0 hy1 hy2 rfl (by decide) (.slice pk ks.length ck) ks.length (kInts ks) (by simp[Act.eval]) (World.ownsRow.alloc (w:=wc.drew) HKR _) _ 1 1 [Iq (L.length:Int)] (by simp[Act.eval]) rfl (cells_new _ _ _ _ rfl) (by intro u hu;simp at hu;subst hu;rfl) (by unfold maxLen;omega) (by omega) (by simp;omega) ?_;intro v' w3 hown' hg hat;obtain⟨p'',c'',hv'⟩:=own_slice hown';subst hv';have HP3:=qH<|PR.far ((HP2.drewN 1).below ((Below.refl _ _).alloc (Nat.le_refl _) _)) hg (fun g e=>(HKR.lt g e).1) hrb;have k3:=HP3.c3;have hgb:=(hg.block g (Nat.lt_of_lt_of_le hgl (by simp)) HGne).trans (heap_alloc_old _ _ hgl);have k14:=(World.cell?_of_block hgb).trans e14;have kf14:=(World.frozen?_of_block hgb).trans f14);all_goals
       have HO:Hid (AddOut w (w3.setCell ⟨g,j*16+14,none⟩ (.slice p'' (ks.length+1) c'')) rb B s i (Sq ab 12 12) fv (grown L ⟨kind,withoutL,[],[],(j:Int)⟩)):=by rw[HGE.out];exact add_kid HP3 HN3 HL1 HF2 hB2 hrb hBg (by omega) HHK HKS _ hown' hg hat
       clear HP3 hg hat hown' k3 hgb k14 kf14;go_wp2_with fail;go_meet;exact⟨rfl,HO⟩
     case rest=>obtain⟨rfl,HO⟩:=hcut;clear HKR e14 f14 d3 HN3;go_wp2;go_ret;exact⟨rfl,HO⟩
end
section
open Go.RowKit Go.Proofs.Tryz
def hasAt(L:List Nd)(k:Nat)(n:Int):Bool:=L.any fun d=>d.attr[k]?.getD 0==n
theorem hasAt_zero(L:List Nd)(n:Int):hasAt L 0 n=hasId L n:=rfl
theorem any_take_succ(L:List Nd)(k j:Nat)(n:Int)(hj:j<L.length)(h:hasAt (L.take j) k n=false)(hn:((nth L j).attr[k]?.getD 0==n)=false):hasAt (L.take (j+1)) k n=false:=by unfold hasAt at*;rw[List.take_add_one,List.any_append,h];unfold nth at hn;rw[List.getElem?_eq_getElem hj]at hn⊢;simp at hn⊢;exact hn
theorem any_at(L:List Nd)(k j:Nat)(n:Int)(hj:j<L.length)(hn:((nth L j).attr[k]?.getD 0==n)=true):hasAt L k n=true:=by unfold hasAt;unfold nth at hn;rw[List.getElem?_eq_getElem hj]at hn;rw[List.any_eq_true];exact⟨L[j],List.getElem_mem hj,by simpa using hn⟩
def rowA(k:Nat):Value:=.agg #[.string (nmAt k),.int .u64 (kdAt k:Int),Iq (moAt k),Iq (woAt k),.bool (sgAt k),.func (.func (fnAt k)) #[] #[]]
theorem someNodeHas_any(rb B:Nat)(s:ByteArray)(i:Nat)(av nv fv:Value)(L:List Nd)(KV:Nat->Value)(k:Nat)(hk:k<12)(n:Int)(w:World)(h:PR w rb s i av nv fv)(hn:PN w B nv L KV)(hL:L.length≤100000):
 Calls prog 186 #[Pq rb,rowA k,Iq n] w fun e w'=>e=.returned (.bool (hasAt L k n))∧Below w.heap.size w w':=by
 obtain⟨pn,cn,rfl⟩:∃p c,nv=.slice p L.length c:=own_slice hn.nr.row.choose_spec;have HQ:=qH<|in_at k hk;unfold rowA;obtain⟨g,hg⟩:=nmd (fnAt k);obtain⟨a0,h0⟩:=nmd (nmAt k);obtain⟨a1,h1⟩:=nmd (kdAt k);obtain⟨a2,h2⟩:=nmd (moAt k);obtain⟨a3,h3⟩:=nmd (woAt k);obtain⟨a4,h4⟩:=nmd (sgAt k);rw[hg,h0,h1,h2,h3,h4];rw[hg]at HQ;have eg:=HQ.1;clear h0 h1 h2 h3 h4 hg;have HR:=qH<|h;have HN:=qH<|hn;have c3:=h.c3;have hrl:=h.lt;clear h hn;go_enter func186,ntmps186;go_wp2;obtain⟨W1,hW1⟩:=nmd (w.alloc (.cells #[.string a0,.int .u64 (a1:Int),Iq a2,Iq a3,.bool a4,.func (.func g) #[] #[]] 175));have B1:Hid (Below w.heap.size w W1):=by rw[<-hW1];exact(Below.refl _ _).alloc (Nat.le_refl _) _
 have HR1:Hid (PR W1 rb s i av (.slice pn L.length cn) fv):=by rw[<-hW1];exact HR.below ((Below.refl _ _).alloc (Nat.le_refl _) _)
 have HN1:=qH<|HN.up (Up.below B1);have d5:W1.cell? ⟨w.heap.size,5,none⟩=some (.func (.func g) #[] #[]):=by rw[<-hW1,World.cell?_alloc_at _ _ _ _ rfl];rfl
 have d3:=HR1.c3;rw[hW1];clear hW1 c3 hrl HR HN;go_loopw[13] (fun v wr=>∃j:Nat,v=Iq (j:Int)∧j≤L.length∧Hid (hasAt (L.take j) k n=false)∧Hid (∃q,wr=W1.drewN q)) (fun v _=>L.length-(intOf v).toNat);case atStart=>exact⟨0,rfl,Nat.zero_le _,by show hasAt (L.take 0) k n=false;simp[hasAt],0,rfl⟩
 case round=>
  obtain⟨j,rfl,hj,HF,HW⟩:=hrel;have B2:Hid (Below w.heap.size w wr):=by obtain⟨q,rfl⟩:=HW.out;exact below_drewN' B1 _
  have d5':wr.cell? ⟨w.heap.size,5,none⟩=some (.func (.func g) #[] #[]):=by obtain⟨q,rfl⟩:=HW.out;exact d5
  have d3':wr.cell? ⟨rb,3,none⟩=some (.slice pn L.length cn):=by obtain⟨q,rfl⟩:=HW.out;exact d3
  by_cases hlt:j<L.length
  ·have hlt':(j:Int)<(L.length:Int):=by omega
   obtain⟨bl,cap,hv,hBg,hgl,_,_⟩:=HN1.nr.form (by omega);simp only[Value.slice.injEq,true_and]at hv;obtain⟨rfl,rfl⟩:=hv;have ce0:=HN1.nr.cells bl rfl j hlt (k+1) _ (pn_attr (by rw[HN1.len j hlt];exact hk));have ce:wr.cell? ⟨bl,j*16+(k+1),none⟩=some (Iq ((nth L j).attr[k]?.getD 0)):=by obtain⟨q,rfl⟩:=HW.out;exact ce0
   clear ce0;obtain⟨x,hx⟩:=nmd ((nth L j).attr[k]?.getD 0);have HX:=qH<|hx;rw[hx]at ce;clear hx;have ce2:wr.cell? ⟨bl,j*16+k+1,none⟩=some (Iq x):=ce;by_cases hxn:x=n
   ·have e1:(x==n)=true:=by simpa using hxn
    have HT:=qH<|any_at L k j n hlt (by rw[HX.out];exact e1);go_wp2_with fail;go_quiet(first|(go_at_fn g;exact Calls.quiet_of_same (HQ.2 _ _ _)));go_wp2;go_ret;exact⟨by rw[HT.out];rfl,below_drewN' B2 _⟩
   ·have e1:(x==n)=false:=by simpa using hxn
    have HF2:=qH<|any_take_succ L k j n hlt HF (by rw[HX.out];exact e1);go_wp2_with fail;go_quiet(first|(go_at_fn g;exact Calls.quiet_of_same (HQ.2 _ _ _)));go_wp2;go_roundw;case rel=>exact⟨j+1,by go_num,by omega,HF2,by obtain⟨q,rfl⟩:=HW.out;exact⟨q+nq,by first|rfl|exact World.drewN_drewN _ _ _⟩⟩
    case measure=>simp[intOf];omega
  ·have hlt':¬(j:Int)<(L.length:Int):=by omega
   obtain rfl:j=L.length:=by omega
   have HT:Hid (hasAt L k n=false):=by have:=HF.out;rw[List.take_length]at this;exact this
   go_wp2;go_ret;exact⟨by rw[HT.out];rfl,B2⟩
end
section
open Go.RowKit Go.Proofs.Tryz
def setB(L:List Nd)(k:Nat)(n:Int):Bool:=sgAt k&&(n !=woAt k)&&hasAt L k n
def setE(L:List Nd)(k:Nat)(n:Int)(rg tw:Addr):Value:=if moAt k<n then errV rg else if setB L k n=true then errV tw else .nilIface
def setL(L:List Nd)(j k:Nat)(n:Int):List Nd:=if moAt k<n∨setB L k n=true then L else L.modify j fun d=>{d with attr:=d.attr.set k n}
def SetOut(w w':World)(e:Ending)(rb B:Nat)(s:ByteArray)(i:Nat)(av nv fv:Value)(L:List Nd)(KV:Nat->Value)(j k:Nat)(n:Int)(rg tw:Addr)(bl:Nat):Prop:=
 w.grownBy w' (some bl)∧e=.returned (setE L k n rg tw)∧PR w' rb s i av nv fv∧PN w' B nv (setL L j k n) KV∧Fr B rb w w'∧B≤w'.heap.size
theorem set_any(rb B:Nat)(s:ByteArray)(i:Nat)(av fv:Value)(L:List Nd)(KV:Nat->Value)(bl cap j k:Nat)(hk:k<12)(n:Int)(rg tw:Addr)(w:World)(h:PR w rb s i av (Sq bl L.length cap) fv)(hn:PN w B (Sq bl L.length cap) L KV)(hL:L.length≤100000)(hj:j<L.length)(hrb:rb<B)(hB:B≤w.heap.size)
 (hg3:3<B) (hg4:4<B) (hn3:3≠rb) (hn4:4≠rb)
 (er:w.cell? ⟨4,0,none⟩=some (errV rg)) (et:w.cell? ⟨3,0,none⟩=some (errV tw)):
 Calls prog 168 #[Pq rb,.pointer (some ⟨bl,j*16,none⟩),rowA k,Iq n] w fun e w'=>SetOut w w' e rb B s i av (Sq bl L.length cap) fv L KV j k n rg tw bl:=by
 have HQ:=qH<|in_at k hk;have HS:Hid (∀W,PR W rb s i av (Sq bl L.length cap) fv->PN W B (Sq bl L.length cap) L KV->Calls prog 186 #[Pq rb,rowA k,Iq n] W fun e w'=>e=.returned (.bool (hasAt L k n))∧Below W.heap.size W w'):=fun W h1 h2=>someNodeHas_any rb B s i av _ fv L KV k hk n W h1 h2 hL;unfold rowA at HS⊢;have HD:Hid (setE L k n rg tw=if moAt k<n then errV rg else if(sgAt k&&(n !=woAt k)&&hasAt L k n)=true then errV tw else .nilIface):=rfl;have HL:Hid (setL L j k n=if moAt k<n∨(sgAt k&&(n !=woAt k)&&hasAt L k n)=true then L else L.modify j fun d=>{d with attr:=d.attr.set k n}):=rfl;obtain⟨g,hg⟩:=nmd (fnAt k);obtain⟨a0,h0⟩:=nmd (nmAt k);obtain⟨a1,h1⟩:=nmd (kdAt k);obtain⟨a2,h2⟩:=nmd (moAt k);obtain⟨a3,h3⟩:=nmd (woAt k);obtain⟨a4,h4⟩:=nmd (sgAt k);obtain⟨hh,h5⟩:=nmd (hasAt L k n);rw[hg,h0,h1,h2,h3,h4]at HS⊢;rw[h5]at HS;rw[h2,h3,h4,h5]at HD HL;rw[hg]at HQ;have eg:=HQ.1;clear h0 h1 h2 h3 h4 h5 hg;have HR:=qH<|h;have HN:=qH<|hn;have hBl:=(hn.nr.row.choose_spec.lt bl rfl).1;clear h hn;have er':w.cell? ⟨4,0,none⟩=some (.iface 311 (.pointer (some rg))):=er;have et':w.cell? ⟨3,0,none⟩=some (.iface 311 (.pointer (some tw))):=et;have ER:=qH<|er';have ET:=qH<|et';clear er et er' et';obtain⟨bx,hbx⟩:∃z:Obj,(.cells #[.string a0,.int .u64 (a1:Int),Iq a2,Iq a3,.bool a4,.func (.func g) #[] #[]] 175)=z:=⟨_,rfl⟩;have BA:Hid (Below w.heap.size w (w.alloc (.cells #[.string a0,.int .u64 (a1:Int),Iq a2,Iq a3,.bool a4,.func (.func g) #[] #[]] 175))):=(Below.refl _ _).alloc (Nat.le_refl _) _;clear hbx bx;have hbl:=(HN.nr.row.choose_spec.lt bl rfl).2;have hl3:3<w.heap.size:=by omega
 have hl4:4<w.heap.size:=by omega
 have hlr:rb<w.heap.size:=by omega
 have ce:=HN.nr.cells bl rfl j hj (k+1) _ (pn_attr (by rw[HN.len j hj];exact hk));obtain⟨x0,hx0⟩:=nmd ((nth L j).attr[k]?.getD 0);rw[hx0]at ce;have ce2:w.cell? ⟨bl,j*16+k+1,none⟩=some (Iq x0):=ce;have cf:w.frozen? ⟨bl,j*16+(k+1),none⟩=false:=HN.nr.frz rfl _;have cf2:w.frozen? ⟨bl,j*16+k+1,none⟩=false:=HN.nr.frz rfl _;clear hx0;have FIN:Hid (∀(W':World),Below w.heap.size w W'->¬a2<n->(a4&&(n !=a3)&&hh)=false->SetOut w (W'.setCell ⟨bl,j*16+(k+1),none⟩ (Iq n)) (.returned .nilIface) rb B s i av (Sq bl L.length cap) fv L KV j k n rg tw bl):=fun W' hb c1 c2=>by
  have hn':=HN.up (Up.below (B:=B) hb);refine⟨gr_trans (gr_below hb) (gr_set W' bl _ _),by rw[HD.out,if_neg c1,c2];rfl,PR.far (HR.below hb) (gr_set W' bl _ _) (fun q e=>by injection e with e;omega) hrb,?_,(Fr.below hb hB).trans (Fr.own (gr_set W' bl _ _) (Nat.le_trans hB hb.size) (fun q e=>by injection e with e;omega)),?_⟩;·rw[HL.out,if_neg (by rw[c2];simp;omega)];have:=hn'.setAttr hj hk n;simpa using this
  ·have:=hb.size;simp;omega
 have FIN2:Hid (∀(o:Obj),¬a2<n->(a4&&(n !=a3)&&hh)=false->SetOut w ((w.setCell ⟨bl,j*16+(k+1),none⟩ (Iq n)).alloc o) (.returned .nilIface) rb B s i av (Sq bl L.length cap) fv L KV j k n rg tw bl):=fun o c1 c2=>by obtain⟨e0,e1,e2,e3,e4,e5⟩:=FIN w (Below.refl _ _) c1 c2;have hb:Below (w.setCell ⟨bl,j*16+(k+1),none⟩ (Iq n)).heap.size (w.setCell ⟨bl,j*16+(k+1),none⟩ (Iq n)) ((w.setCell ⟨bl,j*16+(k+1),none⟩ (Iq n)).alloc o):=(Below.refl _ _).alloc (Nat.le_refl _) _;exact⟨gr_trans e0 (gr_below hb),e1,e2.below hb,e3.up (Up.below hb),e4.trans (Fr.below hb e5),Nat.le_trans e5 hb.size⟩
 have KEP:Hid (∀(W':World),Below w.heap.size w W'->(a2<n∨(a4&&(n !=a3)&&hh)=true)->SetOut w W' (.returned (setE L k n rg tw)) rb B s i av (Sq bl L.length cap) fv L KV j k n rg tw bl):=fun W' hb c1=>
  ⟨gr_below hb,rfl,HR.below hb,by rw[HL.out,if_pos c1];exact HN.up (Up.below hb),Fr.below hb hB,Nat.le_trans hB hb.size⟩;have er:=ER.out;have et:=ET.out;by_cases c1:a2<n
 ·have HV:Hid (setE L k n rg tw=.iface 311 (.pointer (some rg))):=by show _=_;rw[HD.out,if_pos c1];rfl
  have d1:=decide_eq_true c1;go_enter func168,ntmps168;go_wp2;go_ret;have:=KEP _ BA (.inl c1);rw[HV.out]at this;exact this
 ·have d1:=decide_eq_false c1;cases ha4:a4 with
  |false=>subst ha4;go_enter func168,ntmps168;go_wp2_with(first|(go_at_fn g;refine(HQ.2 _ _ _).mono ?_;rintro e w2 ⟨rfl,hw⟩;obtain rfl:=hw.symm));go_ret;exact FIN2 _ (by omega) rfl
  |true=>
   subst ha4;by_cases c2:n=a3
   ·subst c2;have e2:(n !=n)=false:=by simp
    have e2':(n==n)=true:=by simp
    go_enter func168,ntmps168;go_wp2_with(first|(go_at_fn g;refine(HQ.2 _ _ _).mono ?_;rintro e w2 ⟨rfl,hw⟩;obtain rfl:=hw.symm));go_ret;exact FIN2 _ (by omega) (by rw[e2];rfl)
   ·have e2:(n !=a3)=true:=by simpa using c2
    have e2':(n==a3)=false:=by simpa using c2
    have CS:=qH<|HS _ (HR.below BA) (HN.up (Up.below BA));go_enter func168,ntmps168;go_wp2_with fail;refine CS.mono ?_;rintro e w2 ⟨rfl,hb2⟩;have HB2:=qH<|BA.trans (hb2.mono (by simp));have d5:w2.cell? ⟨w.heap.size,5,none⟩=some (.func (.func g) #[] #[]):=(hb2.cell (p:=⟨w.heap.size,5,none⟩) (by simp)).trans (by rw[World.cell?_alloc_at _ _ _ _ rfl];rfl);have et2:=(HB2.cell (p:=⟨3,0,none⟩) hl3).trans et;have ceb:=(HB2.cell (p:=⟨bl,j*16+(k+1),none⟩) hbl).trans ce;have cfb:=(HB2.frozen (p:=⟨bl,j*16+(k+1),none⟩) hbl).trans cf;clear hb2 CS et er ce ce2 cf cf2;cases hhh:hh with
    |true=>
     subst hhh;have HV:Hid (setE L k n rg tw=.iface 311 (.pointer (some tw))):=by show _=_;rw[HD.out,if_neg (by omega),if_pos (by rw[e2];rfl)];rfl
     go_wp2;go_ret;have:=KEP _ HB2 (.inr (by rw[e2];rfl));rw[HV.out]at this;exact this
    |false=>subst hhh;go_wp2_with(first|(go_at_fn g;refine(HQ.2 _ _ _).mono ?_;rintro e w3 ⟨rfl,hw⟩;obtain rfl:=hw.symm));go_ret;exact FIN _ HB2 (by omega) (by rw[e2];rfl)
end
section
open Go.RowKit Go.Proofs.Tryz
def srchF(name:ByteArray)(kind:Nat):Nat->Nat->Option Nat
 |0,_=>none
 |f+1,j=>if nmAt j=name∧ofK (kdAt j) kind=true then some j else srchF name kind f (j+1)
def zeroA:Value:=.agg #[.string ⟨#[]⟩,.int .u64 0,Iq 0,Iq 0,.bool false,.nilFunc]
def aofV(name:ByteArray)(kind:Nat)(ws:List ByteArray)(no tw:Addr):Value:=match srchF name kind 12 0 with
 |none=>.tuple #[zeroA,errV no]
 |some j=>if 0≤findF ws name 0 then .tuple #[zeroA,errV tw]else .tuple #[rowA j,.nilIface]
theorem results_line{fn:Func}{p u:Tmp}{ty:TypeId}(h:fn.results=#[.cell p ty,.tmp u])(tmps:Array Value)(P:Program)(w:World)(g:Nat)(cs:Array Value)
 (hp:tmps.getD p undef=Pq g) (hl:(loadVar ty ⟨g,0,none⟩).run P w=.ok (.agg cs) w):
 (results fn tmps).run P w=.ok (.tuple #[.agg cs,tmps.getD u undef]) w:=by rw[results_cell_tmp h,hp];simp[asAddr,hl]
theorem row6_set{W:World}{b:Nat}{T:TypeId}{o0 o1 o2 o3 o4 o5:Value}(h:W.heap[b]?=some (.cells #[o0,o1,o2,o3,o4,o5] T (0,0)))(v0 v1 v2 v3 v4 v5:Value):
 ((((((W.setCell ⟨b,0,none⟩ v0).setCell ⟨b,1,none⟩ v1).setCell ⟨b,2,none⟩ v2).setCell ⟨b,3,none⟩ v3).setCell ⟨b,4,none⟩ v4).setCell ⟨b,5,none⟩ v5).heap[b]?=some (.cells #[v0,v1,v2,v3,v4,v5] T (0,0)):=
 heap_setCell_same _ b 5 _ T _ (heap_setCell_same _ b 4 _ T _ (heap_setCell_same _ b 3 _ T _ (heap_setCell_same _ b 2 _ T _ (heap_setCell_same _ b 1 _ T _ (heap_setCell_same _ b 0 _ T _ h)))))
theorem heap_drew'(X:World):X.drew.heap=X.heap:=rfl
theorem row6_drew{W:World}{b:Nat}{T:TypeId}{o0 o1 o2 o3 o4 o5:Value}(h:W.heap[b]?=some (.cells #[o0,o1,o2,o3,o4,o5] T (0,0)))(v0 v1 v2 v3 v4 v5:Value):
 (((((((W.setCell ⟨b,0,none⟩ v0).setCell ⟨b,1,none⟩ v1).setCell ⟨b,2,none⟩ v2).setCell ⟨b,3,none⟩ v3).setCell ⟨b,4,none⟩ v4).setCell ⟨b,5,none⟩ v5).drew).heap[b]?=some (.cells #[v0,v1,v2,v3,v4,v5] T (0,0)):=by rw[heap_drew'];exact row6_set h v0 v1 v2 v3 v4 v5
theorem below_drew'{B:Nat}{w w':World}(h:Below B w w'):Below B w w'.drew:=⟨h.os,h.tape,h.output,h.size,h.block⟩
theorem below_set6{B b:Nat}{W W':World}(h:Below B W W')(hb:B≤b)(v0 v1 v2 v3 v4 v5:Value):Below B W ((((((W'.setCell ⟨b,0,none⟩ v0).setCell ⟨b,1,none⟩ v1).setCell ⟨b,2,none⟩ v2).setCell ⟨b,3,none⟩ v3).setCell ⟨b,4,none⟩ v4).setCell ⟨b,5,none⟩ v5):=
 below_set' (below_set' (below_set' (below_set' (below_set' (below_set' h hb v0) hb v1) hb v2) hb v3) hb v4) hb v5
theorem kd_four(j:Nat)(hj:j<12):kdAt j=127∨kdAt j=3∨kdAt j=8∨kdAt j=32:=by
 have:j=0∨j=1∨j=2∨j=3∨j=4∨j=5∨j=6∨j=7∨j=8∨j=9∨j=10∨j=11:=by omega
 rcases this with rfl|rfl|rfl|rfl|rfl|rfl|rfl|rfl|rfl|rfl|rfl|rfl<;>decide
theorem Txts.below{W W':World}{v:Value}{ws:List ByteArray}(h:Txts W v ws)(hb:Below W.heap.size W W'):Txts W' v ws:=by
 obtain⟨p,c,rfl,rfl|⟨blk,rfl,h1,h2⟩⟩:=h;·exact⟨p,c,rfl,.inl rfl⟩
 ·exact⟨_,c,rfl,.inr ⟨blk,rfl,Nat.lt_of_lt_of_le h1 hb.size,fun j hj=>(hb.cell (p:=⟨blk,0+j,none⟩) h1).trans (h2 j hj)⟩⟩
theorem attributeOf_any(rb ab:Nat)(s:ByteArray)(i:Nat)(nv fv:Value)(kind:Nat)(name:ByteArray)(v:Value)(ws:List ByteArray)(no tw:Addr)(w:World)(h:PR w rb s i (Sq ab 12 12) nv fv)(ht:Tab w ab)(hk:kind<7)(hv:Txts w v ws)(hn:ws.length≤1099511627776)
 (en:w.cell? ⟨5,0,none⟩=some (errV no)) (et:w.cell? ⟨3,0,none⟩=some (errV tw)):
 Calls prog 166 #[Pq rb,Iq (kind:Int),.string name,v] w fun e w'=>e=.returned (aofV name kind ws no tw)∧Below w.heap.size w w':=by
 have EN:Hid (w.cell? ⟨5,0,none⟩=some (.iface 311 (.pointer (some no)))):=en;have ET:Hid (w.cell? ⟨3,0,none⟩=some (.iface 311 (.pointer (some tw)))):=et;have hl5:5<w.heap.size:=World.block_lt_of_cell? w _ en;have hl3:3<w.heap.size:=World.block_lt_of_cell? w _ et;have HT:=qH<|ht;have HX:=qH<|hv;have c2:=h.c2;have hrl:=h.lt;have hal:=ht.lt;have HI:=qH<|fun n m mo wi sg fv w hm=>isOf_any n m kind mo wi sg fv w hm hk;have HV:Hid (∀r,srchF name kind 12 0=r->aofV name kind ws no tw=match r with
  |none=>.tuple #[zeroA,errV no]
  |some j=>if 0≤findF ws name 0 then .tuple #[zeroA,errV tw]else .tuple #[rowA j,.nilIface]):=fun r hr=>by unfold aofV;rw[hr]
 obtain⟨pv,cv,rfl,_⟩:∃p c,v=.slice p ws.length c∧True:=by obtain⟨p,c,e,_⟩:=hv;exact⟨p,c,e,trivial⟩
 clear h ht hv en et;go_enter func166,ntmps166;go_wp2;go_loopw[17] (fun u wr=>∃j:Nat,u=Iq (j:Int)∧j≤12∧Hid (srchF name kind 12 0=srchF name kind (12-j) j)∧Hid (Below w.heap.size w wr)∧Hid (wr.heap[w.heap.size]?=some (.cells #[.string ⟨#[]⟩,.int .u64 0,Iq 0,Iq 0,.bool false,.nilFunc] 175 (0,0)))) (fun u _=>12-(intOf u).toNat);case atStart=>exact⟨0,rfl,by omega,rfl,(Below.refl _ _).alloc (Nat.le_refl _) _,heap_alloc_new _ _⟩
 case round=>
  obtain⟨j,rfl,hj,HS,HB,HR⟩:=hrel;have hrs:=(Array.getElem?_eq_some_iff.1 HR).1;have en:=(HB.cell (p:=⟨5,0,none⟩) hl5).trans EN;by_cases hlt:j<12
  ·have hlt':(j:Int)<12:=by omega
   have hT:=HT.fr (Fr.below (r:=w.heap.size) HB (Nat.le_refl _)) hal (by omega);obtain⟨t0,t1,t2,t3,t4,t5⟩:=hT.at hlt;have hT2:=hT.lt;have HK4:=qH<|kd_four j hlt;have HS2:Hid (srchF name kind 12 0=if nmAt j=name∧ofK (kdAt j) kind=true then some j else srchF name kind (12-(j+1)) (j+1)):=by show _=_;rw[HS.out,show 12-j=(12-(j+1))+1 by omega];rfl
   have HRW:Hid (rowA j=.agg #[.string (nmAt j),.int .u64 (kdAt j:Int),Iq (moAt j),Iq (woAt j),.bool (sgAt j),.func (.func (fnAt j)) #[] #[]]):=rfl;obtain⟨g,hg⟩:=nmd (fnAt j);obtain⟨a0,h0⟩:=nmd (nmAt j);obtain⟨a1,h1⟩:=nmd (kdAt j);obtain⟨a2,h2⟩:=nmd (moAt j);obtain⟨a3,h3⟩:=nmd (woAt j);obtain⟨a4,h4⟩:=nmd (sgAt j);rw[h0]at t0 HS2;rw[h1]at t1 HK4 HS2;rw[h2]at t2;rw[h3]at t3;rw[h4]at t4;rw[hg]at t5;rw[h0,h1,h2,h3,h4,hg]at HRW;clear h0 h1 h2 h3 h4 hg hT;by_cases e0:a0=name;·subst e0;have CI:Hid (∀W,Calls prog 182 #[.agg #[.string a0,.int .u64 (a1:Int),Iq a2,Iq a3,.bool a4,.func (.func g) #[] #[]],Iq (kind:Int)] W fun e w'=>e=.returned (.bool (ofK a1 kind))∧Below W.heap.size W w'):=fun W=>HI _ _ _ _ _ _ _ HK4;obtain⟨ok,hok⟩:=nmd (ofK a1 kind);rw[hok]at CI;rw[hok]at HS2;clear hok;go_wp2_with fail;refine(CI _).mono ?_;rintro e w2 ⟨rfl,hb2⟩;have HB2:=qH<|(HB.alloc (Nat.le_of_lt hrs) _).trans (hb2.mono (by simp;omega));have HR2:=qH<|(hb2.block _ (by simp;omega)).trans ((heap_alloc_old _ _ hrs).trans HR);have HA2:Hid (w2.heap[wr.heap.size]?=some (.cells #[.string a0,.int .u64 (a1:Int),Iq a2,Iq a3,.bool a4,.func (.func g) #[] #[]] 175 (0,0))):=(hb2.block _ (by simp)).trans (heap_alloc_new _ _);clear hb2 t0 t1 t2 t3 t4 t5 en;cases ok with
    |false=>
     have HS3:Hid (srchF a0 kind 12 0=srchF a0 kind (12-(j+1)) (j+1)):=by show _=_;rw[HS2.out,if_neg (by simp)]
     clear HS2;go_wp2;go_roundw;case rel=>exact⟨j+1,by go_num,by omega,HS3,HB2,HR2⟩
     case measure=>simp[intOf];omega
    |true=>
     have HS3:Hid (srchF a0 kind 12 0=some j):=by show _=_;rw[HS2.out,if_pos (by simp)]
     clear HS2;have CC:=qH<|contains_any ws a0 _ w2 (HX.below HB2) hn;by_cases hf:0≤findF ws a0 0
     ·have HVV:Hid (aofV a0 kind ws no tw=.tuple #[zeroA,errV tw]):=by show _=_;rw[HV _ HS3.out];simp only[if_pos hf]
      rw[decide_eq_true hf]at CC;have et:=(HB2.cell (p:=⟨3,0,none⟩) hl3).trans ET;have hr2:=HR2.out;have hr2s:=(Array.getElem?_eq_some_iff.1 hr2).1;have z0:w2.cell? ⟨w.heap.size,0,none⟩=some (.string ⟨#[]⟩):=by simp[World.cell?,hr2]
      have z1:w2.cell? ⟨w.heap.size,1,none⟩=some (.int .u64 0):=by simp[World.cell?,hr2]
      have z2:w2.cell? ⟨w.heap.size,2,none⟩=some (Iq 0):=by simp[World.cell?,hr2]
      have z3:w2.cell? ⟨w.heap.size,3,none⟩=some (Iq 0):=by simp[World.cell?,hr2]
      have z4:w2.cell? ⟨w.heap.size,4,none⟩=some (.bool false):=by simp[World.cell?,hr2]
      have z5:w2.cell? ⟨w.heap.size,5,none⟩=some .nilFunc:=by simp[World.cell?,hr2]
      have zf:∀q,w2.frozen? ⟨w.heap.size,q,none⟩=false:=fun q=>frozen_of_row _ _ _ _ _ hr2;clear hr2;go_wp2_with fail;refine CC.mono ?_;rintro e w3 ⟨rfl,hw3⟩;obtain rfl:=hw3.symm;go_wp2_with fail;have hg3:3≠w.heap.size:=by omega
      go_region;all_goals go_wp2;refine bodyPost_ret (results_line rfl _ _ _ w.heap.size _ rfl (run_loadVar_row _ _ _ _ _ _ _ (row6_drew HR2 _ _ _ _ _ _) underlying175 rfl (by kernel_rfl))) rfl ?_;exact⟨by rw[HVV.out];rfl,below_drew' (below_set6 HB2 (Nat.le_refl _) _ _ _ _ _ _)⟩
     ·have HVV:Hid (aofV a0 kind ws no tw=.tuple #[rowA j,.nilIface]):=by show _=_;rw[HV _ HS3.out];simp only[if_neg hf]
      rw[decide_eq_false hf]at CC;have hr2:=HR2.out;have hr2s:=(Array.getElem?_eq_some_iff.1 hr2).1;have z0:w2.cell? ⟨w.heap.size,0,none⟩=some (.string ⟨#[]⟩):=by simp[World.cell?,hr2]
      have z1:w2.cell? ⟨w.heap.size,1,none⟩=some (.int .u64 0):=by simp[World.cell?,hr2]
      have z2:w2.cell? ⟨w.heap.size,2,none⟩=some (Iq 0):=by simp[World.cell?,hr2]
      have z3:w2.cell? ⟨w.heap.size,3,none⟩=some (Iq 0):=by simp[World.cell?,hr2]
      have z4:w2.cell? ⟨w.heap.size,4,none⟩=some (.bool false):=by simp[World.cell?,hr2]
      have z5:w2.cell? ⟨w.heap.size,5,none⟩=some .nilFunc:=by simp[World.cell?,hr2]
      have zf:∀q,w2.frozen? ⟨w.heap.size,q,none⟩=false:=fun q=>frozen_of_row _ _ _ _ _ hr2;have ha2:=HA2.out;have y0:w2.cell? ⟨wr.heap.size,0,none⟩=some (.string a0):=by simp[World.cell?,ha2]
      have y1:w2.cell? ⟨wr.heap.size,1,none⟩=some (.int .u64 (a1:Int)):=by simp[World.cell?,ha2]
      have y2:w2.cell? ⟨wr.heap.size,2,none⟩=some (Iq a2):=by simp[World.cell?,ha2]
      have y3:w2.cell? ⟨wr.heap.size,3,none⟩=some (Iq a3):=by simp[World.cell?,ha2]
      have y4:w2.cell? ⟨wr.heap.size,4,none⟩=some (.bool a4):=by simp[World.cell?,ha2]
      have y5:w2.cell? ⟨wr.heap.size,5,none⟩=some (.func (.func g) #[] #[]):=by simp[World.cell?,ha2]
      clear hr2 ha2;go_wp2_with fail;refine CC.mono ?_;rintro e w3 ⟨rfl,hw3⟩;obtain rfl:=hw3.symm;go_wp2;refine bodyPost_ret (results_line rfl _ _ _ w.heap.size _ rfl (run_loadVar_row _ _ _ _ _ _ _ (row6_set HR2 _ _ _ _ _ _) underlying175 rfl (by kernel_rfl))) rfl ?_;exact⟨by rw[HVV.out,HRW.out];rfl,below_set6 HB2 (Nat.le_refl _) _ _ _ _ _ _⟩
   ·have e1:=str_ne e0;have HS3:Hid (srchF name kind 12 0=srchF name kind (12-(j+1)) (j+1)):=by show _=_;rw[HS2.out,if_neg (fun h=>e0 h.1)]
    clear HS2;go_wp2;go_roundw;case rel=>exact⟨j+1,by go_num,by omega,HS3,HB.alloc (by omega) _,(heap_alloc_old _ _ hrs).trans HR⟩
    case measure=>simp[intOf];omega
  ·obtain rfl:j=12:=by omega
   have HS3:Hid (srchF name kind 12 0=none):=HS.out;have HVV:Hid (aofV name kind ws no tw=.tuple #[zeroA,errV no]):=by show _=_;rw[HV _ HS3.out]
   have hr2:=HR.out;have z0:wr.cell? ⟨w.heap.size,0,none⟩=some (.string ⟨#[]⟩):=by simp[World.cell?,hr2]
   have z1:wr.cell? ⟨w.heap.size,1,none⟩=some (.int .u64 0):=by simp[World.cell?,hr2]
   have z2:wr.cell? ⟨w.heap.size,2,none⟩=some (Iq 0):=by simp[World.cell?,hr2]
   have z3:wr.cell? ⟨w.heap.size,3,none⟩=some (Iq 0):=by simp[World.cell?,hr2]
   have z4:wr.cell? ⟨w.heap.size,4,none⟩=some (.bool false):=by simp[World.cell?,hr2]
   have z5:wr.cell? ⟨w.heap.size,5,none⟩=some .nilFunc:=by simp[World.cell?,hr2]
   have zf:∀q,wr.frozen? ⟨w.heap.size,q,none⟩=false:=fun q=>frozen_of_row _ _ _ _ _ hr2;have hg5:5≠w.heap.size:=by omega
   clear hr2 HS;go_wp2_with fail;go_region;all_goals go_wp2;refine bodyPost_ret (results_line rfl _ _ _ w.heap.size _ rfl (run_loadVar_row _ _ _ _ _ _ _ (row6_drew HR _ _ _ _ _ _) underlying175 rfl (by kernel_rfl))) rfl ?_;exact⟨by rw[HVV.out];rfl,below_drew' (below_set6 HB (Nat.le_refl _) _ _ _ _ _ _)⟩
end
end Go.Proofs.YtmbefonnkkhfgaaGreatDoor
