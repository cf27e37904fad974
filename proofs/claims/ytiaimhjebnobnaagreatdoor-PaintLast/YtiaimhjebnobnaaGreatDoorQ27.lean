import Derived.Test.YtiaimhjebnobnaaGreatDoorQ25
import Derived.Deep.CutBlock
set_option linter.all false
set_option maxRecDepth 100000
set_option maxHeartbeats 16000000
namespace Go.Proofs.YtiaimhjebnobnaaGreatDoor
open Go.RowKit Go.Proofs.Tryz
section
variable{W W':World} {rb i:Nat} {s:ByteArray} {lv:Value} {bad er at_ aQ:Int}
theorem RS.setL(h:RS W rb s i lv bad er at_ aQ)  v  :RS (W.setCell (az rb 2) v) rb s i v bad er at_ aQ:=
 ⟨by simpa using h.lt,aL (by omega) h.c0,aL (by omega) h.c1,iQ h.c2,aL (by omega) h.c3,aL (by omega) h.c4,aL (by omega) h.c5,aL (by omega) h.c6,fun j=>by rw[ij];exact h.fz j⟩
theorem RS.setD(h:RS W rb s i lv bad er at_ aQ)  d  :RS (W.setCell (az rb 6) (Iq d)) rb s i lv bad er at_ d:=
 ⟨by simpa using h.lt,aL (by omega) h.c0,aL (by omega) h.c1,aL (by omega) h.c2,aL (by omega) h.c3,aL (by omega) h.c4,aL (by omega) h.c5,iQ h.c6,fun j=>by rw[ij];exact h.fz j⟩
theorem RS.far{o}{B}(h:RS W rb s i lv bad er at_ aQ)(hg:W.grownBy W' o)(ho:∀g,o=some g->B<=g)(hr:rb<B):RS W' rb s i lv bad er at_ aQ:=by have hb:=hg.block rb h.lt (fun e=>by grind);have k:∀j,W'.cell? (az rb j)=W.cell? (az rb j):=fun j=>bU hb;exact⟨zz008 h.lt hg.size,(k 0).trans h.c0,(k 1).trans h.c1,(k 2).trans h.c2,(k 3).trans h.c3,(k 4).trans h.c4,(k 5).trans h.c5,(k 6).trans h.c6,fun j=>(qN hb).trans (h.fz j)⟩
end
structure NM(W0 W:World)(rb B:Nat)(s:ByteArray)(i j:Nat)(L:List Nd)(f:gW)(aQ:Int):Prop where
 rbB:rb<B
 le:B<=W.heap.size
 fr:Fr B rb W0 W
 mem:∃nv AV KV er at_,RS W rb s i nv (-1) er at_ aQ/\FL er at_ f j/\RD W B nv L AV KV
theorem DR{W0 W}{rb B i j}{s}{L}{f}{aQ}(h:NM W0 W rb B s i j L f aQ)(c p:Nat)(hp:j<=p):
 Cw 52 #[Pq rb,Iq (c:Int),Iq (p:Int)] W fun r w'=>r=Rw (.tuple #[])/\NM W0 w' rb B s i p L (jn f c p) aQ:=by obtain⟨nv,AV,KV,er,at_,h1,h2,h3⟩:=h.mem;refine(wrong_any rb s i nv (-1) er at_ aQ c p W h1).mono ?_;rintro e w' ⟨rfl,r,g⟩;exact⟨rfl,h.rbB,aO h.le g.size,h.fr.trans (Fr.grown g h.le),nv,AV,KV,_,_,r,h2.add c p hp,h3.up (Up.grown g h.rbB)⟩
theorem NM.slice{W0 W}{rb B i j}{s}{L}{f}{aQ}(h:NM W0 W rb B s i j L f aQ):∃p c AV KV er at_,RS W rb s i (.slice p L.length c) (-1) er at_ aQ/\FL er at_ f j/\RD W B (.slice p L.length c) L AV KV:=by obtain⟨nv,AV,KV,er,at_,h1,h2,h3⟩:=h.mem;obtain⟨p,c,rfl⟩:∃p c,nv=.slice p L.length c:=dQ h3.nr.row.choose_spec;grind
theorem Zx:(prog.info? 77).map (fun i=>(i.zero,i.size,i.bytes))=some (some (.agg #[Iq 0,.slice none 0 0,.string ⟨#[]⟩,.slice none 0 0,Iq 0]),5,80):=by kernel_rfl
theorem ZX  d   ab  :∀u∈lF d (avV ab) (.slice none 0 0),u.oneCell'=true:=by intro u hu;unfold lF avV at hu;simp at hu;rcases hu with rfl|rfl|rfl|rfl|rfl<;>rfl
theorem yl{s}{kind}{L}:∀  f i   er   a   seen   i2   fd   a2,d_ s kind L f i er a seen=.ok (i2,fd,a2)->i<=i2
 |0,i,er,a,seen,i2,fd,a2,e=>by cases e
 |f+1,i,er,a,seen,i2,fd,a2,e=>by
  have pl:=lL s i (-1);have h1:=oO s kind L i er a seen (-1) (by omega);obtain⟨q,hq⟩:=ag (fa kind L er a seen (bF s i (-1)));rw[hq]at h1;obtain⟨f3,a3,s3⟩:=q;rcases h1 with⟨_,h1⟩|⟨_,h1⟩
  ·by_cases hm:aT s (bF s i (-1)).i 59=true;·rw[my h1 hm]at e;have:=yl f _ _ _ _ _ _ _ e;grind[cu,bF]
   ·rw[mw h1 hm]at e;grind[mG,dd,cu,bF]
  simp_all[oP]
theorem ym{s}{kind}{L}{i}{er}{i2}{fd}{a2}(e:dC s kind L i er=.ok (i2,fd,a2)):i<=i2:=by
 unfold dC at e;split at e;·have:=yl _ _ _ _ _ _ _ _ e;grind[cu]
 grind[dX]
theorem OK  L  (d:Nd) (hd:d.kids=[]) (h:∀j,(ae L j).kids.length<=L.length) (hup:d.up=-1\/(0<=d.up/\d.up<L.length))  j  :(ae (grown L d) j).kids.length<=(grown L d).length:=by grind[dP,ae,cV,dp,grown,kR,bj,aV]
theorem Z_{w0 wc w3}{rb B g n1 c' j c:Nat}{s}{i}{v'}{bad er at_ aQ}{L1}{AV1}{Tr}{pk}{ck}{ks}
 (hp:RS w3 rb s i (Sq g n1 c') bad er at_ aQ) (hn:RD wc B (Sq g n1 c') L1 AV1 Tr) (hl:L1.length=n1) (hf:Fr B rb w0 wc) (hB:B<=wc.heap.size) (hrb:rb<B) (T7:B<=g) (hj:j<n1)
 (hk:Tr j=.slice pk ks.length ck) (hks:(ae L1 j).kids=ks)  o  (ho:w3.ownsRow B 3 1 v' (ks.length+1) (kX ks++[Iq (c:Int)])) (hg:((wc.alloc o).drew).grownBy w3 (Value.slice pk ks.length ck).ownBlock)
 (b9:v'.ownBlock=(Value.slice pk ks.length ck).ownBlock\/v'.ownBlock=some ((wc.alloc o).drew).heap.size):
 ∃Sl,RS (w3.setCell (az g (j*5+3)) v') rb s i (Sq g n1 c') bad er at_ aQ/\RD (w3.setCell (az g (j*5+3)) v') B (Sq g n1 c') (L1.modify j fun u=>{u with kids:=u.kids++[c]}) AV1 Sl/\Fr B rb w0 (w3.setCell (az g (j*5+3)) v')/\B<=(w3.setCell (az g (j*5+3)) v').heap.size:=by subst hl;have hkr:=hn.nr.kids j hj;rw[hk]at hkr;have kH:Bt wc (wc.alloc o).drew:=dS ((aj wc.heap.size wc).alloc (ai _) o) 1;have HN4:=hn.up (Up.below (B:=B) kH);have HN5:=HN4.kid (k:=j) (c:=c) (W':=w3) (kv':=v') hj (by grind[kX]) (by grind) (by grind);have HF3:Fr B rb wc w3:=(Fr.below kH hB).trans (Fr.own hg (aO hB kH.size) (fun g e=>(hkr.lt g e).1));have HF4:Fr B rb w3 (w3.setCell (az g (j*5+3)) v'):=Fr.own (ct w3 g _ _) (aO hB HF3.size) (fun q e=>by grind);exact⟨_,RS.far hp (ct w3 g _ _) (fun q e=>by grind) hrb,HN5,hf.trans (HF3.trans HF4),by have:=HF3.size;have:=HF4.size;omega⟩
theorem ip.err{W0 W'}{rb B}{s}{aQ}{st}{r:Except Nat PS}{b}(hr:r=.error b)(h:∃i L g,RW W0 W' rb B s i L g (b:Int) aQ):ip W0 W' rb B s aQ st r:=by rw[hr];exact h
theorem ip.mono{W0 W'}{rb B}{s}{aQ}{st dk}{r}(h:ip W0 W' rb B s aQ dk r)(hi:st.i<=dk.i)(hl:st.L.length<=dk.L.length):ip W0 W' rb B s aQ st r:=by
 cases r with
 |error b=>exact h
 |ok cU=>exact⟨h.1,Nat.lt_of_le_of_lt hi h.2.1,aO hl h.2.2⟩
def CJ(r:Except Nat (Nat×gW×List Int)):gW:=match r with
 |.error _=>none
 |.ok (_,f,_)=>f
theorem RW.setD{W0 W}{rb B i}{s}{L}{f}{bad aQ}(h:RW W0 W rb B s i L f bad aQ)  d  :RW W0 (W.setCell (az rb 6) (Iq d)) rb B s i L f bad d:=by obtain⟨nv,AV,KV,er,at_,h1,h2,h3⟩:=h.mem;exact⟨h.il,h.ll,h.kl,h.rbB,by simpa[World.setCell]using h.le,h.fr.trans (Fr.set _ _),nv,AV,KV,er,at_,h1.setD d,h2,h3.up (Up.set _ h.rbB _)⟩
theorem LF(rb B:Nat)(s:ByteArray)(f:Nat)(hN:Il rb B s f)(hs:s.size<=1073741824):Il rb B s (f+1):=by
 intro up af st w0 w h hup hd hf;have SK:=qH<|rw_skip h hs;have HN:=qH<|hN;have K8:=h.il;have WY:=h.ll (by omega);have XX:=qH<|h.kl;obtain⟨a0,Su⟩:=ag (sk s st.i);have h0a:st.i<=a0:=by rw[<-Su];exact dX _ _
 have tC:a0<=s.size:=by rw[<-Su];exact fw s _ K8
 have UC:sk s a0=a0:=by rw[<-Su,m8]
 obtain⟨R,hR⟩:=ag (de s (f+1) up af st);have HR:Hid (R=if run aB s a0=a0\/aR cM (s.extract a0 (run aB s a0)) 0<0 then .error a0 else match dC s (aR cM (s.extract a0 (run aB s a0)) 0).toNat st.L (run aB s a0) (bS (decide (12<=af)) (bS (decide (100<=st.L.length)) st.er 3 a0) 4 a0)with
  |.error b=>.error b
  |.ok (i2,fd,a)=>jZ s (aR cM (s.extract a0 (run aB s a0)) 0).toNat st.L.length (de s f st.L.length (af+1)) {i:=i2,L:=grown st.L ⟨(aR cM (s.extract a0 (run aB s a0)) 0).toNat,a,[],[],up⟩,er:=fd}):=by show _=_;rw[<-hR,de];simp only[Su];rfl
 have UI:=JC (s:=s) (i:=a0) (-1) tC;rw[Su]at SK;rw[hR];clear h hN Su hR;go_enter func25,ntmps25;go_wp2_with fail;refine ao SK ?_;rintro e w1 ⟨rfl,h1⟩;obtain⟨nv,AV,KV,er,at_,r1,f1,d1⟩:=h1.mem;have c1:=r1.c1;have H1:Hid (rb<B/\B<=w1.heap.size/\Fr B rb w0 w1/\FL er at_ st.er a0/\RD w1 B nv st.L AV KV):=⟨h1.rbB,h1.le,h1.fr,f1 (by omega),d1⟩;have WO:Hid (Cw 49 #[Pq rb] w1 fun e w'=>e=Rw (.string (s.extract a0 (run aB s a0)))/\RS w' rb s (run aB s a0) nv (if run aB s a0=a0 then(a0:Int)else-1) er at_ (af:Int)/\w1.grownBy w' (some rb)):=by
  have:=word_all rb s a0 nv (-1) er at_ (af:Int) w1 r1 (by omega) tC;have e1:wS s a0 (-1)=s.extract a0 (run aB s a0):=by unfold wS;rw[if_pos (by omega),UC]
  have e2:wI s a0 (-1)=run aB s a0:=by unfold wI;rw[if_pos (by omega),UC]
  have e3:wB s a0 (-1)=if run aB s a0=a0 then(a0:Int)else-1:=by unfold wB;rw[if_pos (by omega)];unfold jV;rw[UC]
  rw[e1,e2,e3]at this;exact this
 have dj:run aB s a0<=s.size:=jN _ _ _ tC;have Fw:=jM aB s a0;clear r1 f1 d1 h1 SK UI UC;obtain⟨k,hk⟩:=ag (run aB s a0);have HKK:=qH<|hk;rw[hk]at HR WO dj Fw;clear hk;go_wp2_with fail;clear c1;refine ao WO ?_;rintro e w2 ⟨rfl,r2,g2⟩;have H2:Hid (RS w2 rb s k nv (if k=a0 then(a0:Int)else-1) er at_ (af:Int)/\rb<B/\B<=w2.heap.size/\Fr B rb w0 w2/\FL er at_ st.er a0/\RD w2 B nv st.L AV KV):=⟨r2,H1.1,aO H1.2.1 g2.size,H1.2.2.1.trans (Fr.grown g2 H1.2.1),H1.2.2.2.1,H1.2.2.2.2.up (Up.grown g2 H1.1)⟩;clear r2 g2 WO H1;go_wp2_with fail;refine ao (yJ w2) ?_;rintro e w3 ⟨rfl,hn3,Fx,b3⟩;have H3:Hid (RS w3 rb s k nv (if k=a0 then(a0:Int)else-1) er at_ (af:Int)/\rb<B/\B<=w3.heap.size/\Fr B rb w0 w3/\FL er at_ st.er a0/\RD w3 B nv st.L AV KV):=⟨H2.1.below b3,H2.2.1,aO H2.2.2.1 b3.size,H2.2.2.2.1.trans (Fr.below b3 H2.2.2.1),H2.2.2.2.2.1,H2.2.2.2.2.2.up (Up.below b3)⟩;have FI:=qH<|find_any cM (s.extract a0 k) w2.heap.size 0 7 7 w3 Fx hn3 rfl (by omega);have rl:=kP (s.extract a0 k) cM 0;have hfl:cM.length=7:=rfl;have HEM:Hid (k=a0->aR cM (s.extract a0 k) 0=-1):=fun e=>by grind[uW,uY]
 obtain⟨kd,hkd⟩:=ag (aR cM (s.extract a0 k) 0);rw[hkd]at HR FI rl HEM;generalize s.extract a0 k=tx at FI⊢;clear hkd hn3 Fx b3 H2;go_wp2_with fail;refine ao FI ?_;rintro e w4 ⟨rfl,Du⟩;obtain rfl:=Du.symm;clear FI;by_cases kE:kd<0
 ·have zh7:kd=-1:=by omega
  subst zh7;have fW:Hid (R=.error a0):=by show _=_;rw[HR.out,if_pos (.inr (by omega))]
  have FA:Hid (Cw 27 #[Pq rb,Iq (a0:Int)] w3 fun e w'=>e=Rw (.tuple #[])/\RS w' rb s k nv (a0:Int) er at_ (af:Int)/\w3.grownBy w' (some rb)):=by
   have:=fail_any rb s k nv (if k=a0 then(a0:Int)else-1) er at_ (af:Int) (a0:Int) w3 H3.1;have e:gH (if k=a0 then(a0:Int)else-1) (a0:Int)=a0:=by
    unfold gH;by_cases e:k=a0;·omega
    ·omega
   rw[e]at this;exact this
  clear HR kE;go_wp2_with fail;refine ao FA ?_;rintro e w5 ⟨rfl,r5,g5⟩;have H5:Hid (RW w0 w5 rb B s k st.L st.er (a0:Int) (af:Int)):=⟨dj,fun e=>by omega,XX,H3.2.1,aO H3.2.2.1 g5.size,H3.2.2.2.1.trans (Fr.grown g5 H3.2.2.1),nv,AV,KV,er,at_,r5,fun e=>by omega,H3.2.2.2.2.2.up (Up.grown g5 H3.2.1)⟩;have c3:=r5.c3;have tD:decide ((0:Int)<=(a0:Int))=true:=decide_eq_true (by omega);clear r5 g5 FA;go_wp2;refine bodyPost_ret (results_none rfl _ _ _) rfl ?_;refine⟨rfl,?_⟩;show ip _ _ _ _ _ _ _ _;rw[fW.out];exact⟨_,_,_,H5⟩
 ·obtain⟨kn,rfl⟩:∃z:Nat,kd=z:=⟨kd.toNat,by omega⟩;have SI:kn<7:=by omega
  have I4:k≠a0:=fun e=>by have:=HEM e;omega
  have fW:Hid (R=match dC s kn st.L k (bS (decide (12<=af)) (bS (decide (100<=st.L.length)) st.er 3 a0) 4 a0)with
   |.error b=>.error b
   |.ok (i2,fd,a)=>jZ s kn st.L.length (de s f st.L.length (af+1)) {i:=i2,L:=grown st.L ⟨kn,a,[],[],up⟩,er:=fd}):=by show _=_;rw[HR.out,if_neg (by omega)];rfl
  have Sx:decide ((kn:Int)<0)=false:=decide_eq_false (by omega);have M3:Hid (NM w0 w3 rb B s k a0 st.L st.er (af:Int)):=by have hh:=H3.out;rw[if_neg I4]at hh;exact⟨hh.2.1,hh.2.2.1,hh.2.2.2.1,nv,AV,KV,er,at_,hh.1,hh.2.2.2.2.1,hh.2.2.2.2.2⟩
  clear HR kE H3 HEM rl hfl;obtain⟨pn,cn,AV3,KV3,er3,at3,r3,f3,d3⟩:=M3.slice;have c2:=r3.c2;have c3:=r3.c3;clear r3 f3 d3;go_upto_if 36 with fail;clear c2 c3;go_cut[36,39]from 37 to 38 (fun _ _ wx=>Hid (NM w0 wx rb B s k a0 st.L (bS (decide (100<=st.L.length)) st.er 3 a0) (af:Int)));case first=>
   by_cases hc:100<=st.L.length
   ·have WT:decide ((100:Int)<=(st.L.length:Int))=true:=decide_eq_true (by omega);have Fv:=decide_eq_true hc;have WR:Hid (Cw 52 #[Pq rb,Iq 3,Iq (a0:Int)] w3 fun r w'=>r=Rw (.tuple #[])/\NM w0 w' rb B s k a0 st.L (bS (decide (100<=st.L.length)) st.er 3 a0) (af:Int)):=by rw[Fv];exact DR M3 3 a0 (ai _)
    clear Fv;go_wp2_with fail;refine ao WR ?_;rintro e wn ⟨rfl,hn⟩;have MN:=qH<|hn;clear hn WR;go_wp2_with fail;go_meet;exact MN
   ·have WT:decide ((100:Int)<=(st.L.length:Int))=false:=decide_eq_false (by omega);have Fv:=decide_eq_false hc;have MN:Hid (NM w0 w3 rb B s k a0 st.L (bS (decide (100<=st.L.length)) st.er 3 a0) (af:Int)):=by rw[Fv];exact M3
    clear Fv;go_wp2_with fail;go_meet;exact MN
  case rest=>
   obtain⟨f1,xg⟩:=ag (bS (decide (100<=st.L.length)) st.er 3 a0);rw[xg]at hcut fW;have M5:=hcut;clear xg hcut M3;obtain⟨pn5,cn5,AV5,KV5,er5,at5,r5,f5,d5⟩:=M5.slice;have c6:=r5.c6;clear r5 f5 d5;go_upto_if 44 with fail;clear c6;go_cut[44,47]from 45 to 46 (fun _ _ wx=>Hid (NM w0 wx rb B s k a0 st.L (bS (decide (12<=af)) f1 4 a0) (af:Int)));case first=>
    by_cases hc:12<=af
    ·have WT:decide ((12:Int)<=(af:Int))=true:=decide_eq_true (by omega);have Fv:=decide_eq_true hc;have WR:Hid (Cw 52 #[Pq rb,Iq 4,Iq (a0:Int)] wc fun r w'=>r=Rw (.tuple #[])/\NM w0 w' rb B s k a0 st.L (bS (decide (12<=af)) f1 4 a0) (af:Int)):=by rw[Fv];exact DR M5 4 a0 (ai _)
     clear Fv;go_wp2_with fail;refine ao WR ?_;rintro e wn ⟨rfl,hn⟩;have MN:=qH<|hn;clear hn WR;go_wp2_with fail;go_meet;exact MN
    ·have WT:decide ((12:Int)<=(af:Int))=false:=decide_eq_false (by omega);have Fv:=decide_eq_false hc;have MN:Hid (NM w0 wc rb B s k a0 st.L (bS (decide (12<=af)) f1 4 a0) (af:Int)):=by rw[Fv];exact M5
     clear Fv;go_wp2_with fail;go_meet;exact MN
   case rest=>
    obtain⟨f2,hf2⟩:=ag (bS (decide (12<=af)) f1 4 a0);rw[hf2]at hcut fW;have M6:=hcut;clear hf2 hcut M5;obtain⟨p6,q6,AV6,KV6,er6,at6,r6,fl6,d6⟩:=M6.slice;have c2:=r6.c2;have AT:=qH<|attrs_any rb s k (.slice p6 st.L.length q6) (-1) er6 at6 (af:Int) kn st.L f2 wc r6 (fl6.on Fw) (d6.ids M6.rbB) hs dj (by omega) SI (by omega);have D6:=qH<|d6;clear r6 fl6 d6;go_wp2_with fail;clear c2;refine ao AT ?_;rintro e w7 ⟨ab,a,i7,uK,er7,at7,rfl,hab,Zb,hra,g7,r7,hi7,hm7⟩;have D7:=qH<|D6.up (Up.grown g7 M6.rbB);have R7:=qH<|r7;have A7:=qH<|hra;have FF:Hid (rb<B/\B<=w7.heap.size/\Fr B rb w0 w7/\B<=ab):=⟨M6.rbB,aO M6.le g7.size,M6.fr.trans (Fr.grown g7 M6.le),aO M6.le hab⟩;have HSK:Hid ((∀j,j<st.L.length->(KV6 j).ownBlock≠some ab)/\(Value.slice p6 st.L.length q6).ownBlock≠some ab):=by obtain⟨xs,hx⟩:=D6.nr.row;exact⟨fun j hj e=>by have:=((D6.nr.kids j hj).lt ab e).2;omega,fun e=>by have:=(hx.lt ab e).2;omega⟩
    have Sf:Hid (match dC s kn st.L k f2 with
     |.error b=>uK=(b:Int)
     |.ok (i2,f3,a2)=>uK=-1/\i7=i2/\a=a2/\FL er7 at7 f3 i2):=hm7;clear hab hra g7 r7 hm7 AT M6 D6;obtain⟨i0,O7,eG,fs,gd⟩:=info_parts Zx;obtain⟨xs,hxs⟩:=D7.nr.row;have HX:=qH<|hxs;clear hxs;have c2:=R7.c2;go_upto_region 13 with fail;go_cut[8]from 56 to 68 (fun v wx=>v=Sq ab 12 12/\∃p1 q1,Hid (RS wx rb s i7 (.slice p1 (st.L.length+1) q1) uK er7 at7 (af:Int)/\RD wx B (.slice p1 (st.L.length+1) q1) (st.L++[⟨kn,a,[],[],up⟩]) (fun j=>if j=st.L.length then ab else AV6 j) (fun j=>if j=st.L.length then .slice none 0 0 else KV6 j)/\Fr B rb w0 wx/\B<=wx.heap.size));case first=>
     go_wp2_with(at_builtin;refine wpList_append_own_at _ rfl _ _ 31 rfl B 77 i0 _ 5 80 underlying31 O7 eG fs gd rfl (by decide) _ _ _ rfl (HX.alloc _) _ 1 1 (lF ⟨kn,a,[],[],up⟩ (avV ab) (.slice none 0 0)) rfl rfl (kM _ _ _ _ rfl) (ZX _ _) (by unfold maxLen;omega) (by omega) (by rw[aI];have:=FF.2.1;omega) ?_);intro v1 w8 o8 g8 _ zcg;obtain⟨p1,q1,oB⟩:=dQ o8;subst oB;have bA:=(aj w7.heap.size w7).alloc (ai _) (.cells #[Iq (kn:Int),Sq ab 12 12,.string ⟨#[]⟩,.slice none 0 0,Iq up] 77);have zch:(Value.slice p1 (st.L.length+1) q1).ownBlock=(Value.slice p6 st.L.length q6).ownBlock\/(Value.slice p1 (st.L.length+1) q1).ownBlock=some (w7.alloc (.cells #[Iq (kn:Int),Sq ab 12 12,.string ⟨#[]⟩,.slice none 0 0,Iq up] 77)).heap.size:=by rw[aI];exact zcg
     have R8:=qH<|RS.far (R7.below bA) g8 (fun g e=>(HX.lt g e).1) FF.1;have D8:=qH<|RD.app (D7.up (Up.below bA)) (HX.alloc _) o8 g8 zch Zb rfl FF.2.2.2 (A7.below bA) HSK.1 HSK.2;have F8:Hid (Fr B rb w0 w8/\B<=w8.heap.size):=by have hz:=bA.size;have gd:=FF.2.1;exact⟨FF.2.2.1.trans ((Fr.below bA gd).trans (Fr.own g8 (by omega) (fun g e=>(HX.lt g e).1))),by have:=g8.size;omega⟩
     have k2:=R8.c2;have kf:=R8.fz 2;obtain⟨w9,hw9⟩:=ag (w8.setCell (az rb 2) (.slice p1 (st.L.length+1) q1));have HQ:Hid (RS w9 rb s i7 (.slice p1 (st.L.length+1) q1) uK er7 at7 (af:Int)/\RD w9 B (.slice p1 (st.L.length+1) q1) (st.L++[⟨kn,a,[],[],up⟩]) (fun j=>if j=st.L.length then ab else AV6 j) (fun j=>if j=st.L.length then .slice none 0 0 else KV6 j)/\Fr B rb w0 w9/\B<=w9.heap.size):=by rw[<-hw9];exact⟨R8.setL _,D8.up (Up.set _ FF.1 _),F8.1.trans (Fr.set _ _),by simpa[World.setCell]using F8.2⟩
     clear o8 g8 zcg zch bA;go_wp2_with fail;go_meet;grind
    case rest=>
     obtain⟨rfl,p1,q1,HM⟩:=hcut;clear HX c2 O7 eG fs gd D7 R7 A7 HSK;have Bn:Hid (∀wx nv AV KV,RS wx rb s i7 nv uK er7 at7 (af:Int)->RD wx B nv (grown st.L ⟨kn,a,[],[],up⟩) AV KV->Fr B rb w0 wx->B<=wx.heap.size->RW w0 wx rb B s i7 (grown st.L ⟨kn,a,[],[],up⟩) (CJ (dC s kn st.L k f2)) uK (af:Int)):=fun wx nv AV KV h1 h2 h3 h4=>by
      refine⟨hi7,fun hb=>?_,OK _ _ rfl XX hup,FF.1,h4,h3,nv,AV,KV,er7,at7,h1,fun hb=>?_,h2⟩;·have hm:=Sf.out;rw[dP];cases b9:dC s kn st.L k f2 with
       |error b=>grind
       |ok q=>obtain⟨i2,f3,a2⟩:=q;rw[b9]at hm;have:=ym b9;omega
      ·have hm:=Sf.out;cases b9:dC s kn st.L k f2 with
       |error b=>grind
       |ok q=>obtain⟨i2,f3,a2⟩:=q;rw[b9]at hm;have h5:=hm.2.2.2;rw[<-hm.2.1]at h5;exact h5
     go_upto_if 70 with fail;go_cut[70,88]from 71 to 87 (fun _ _ wx=>Hid (RW w0 wx rb B s i7 (grown st.L ⟨kn,a,[],[],up⟩) (CJ (dC s kn st.L k f2)) uK (af:Int)));case first=>
      rcases hup with rfl|⟨hu0,Gw⟩
      ·have HO:Hid (RW w0 wc rb B s i7 (grown st.L ⟨kn,a,[],[],-1⟩) (CJ (dC s kn st.L k f2)) uK (af:Int)):=by
        refine Bn wc (.slice p1 (st.L.length+1) q1) (fun j=>if j=st.L.length then ab else AV6 j) (fun j=>if j=st.L.length then .slice none 0 0 else KV6 j) HM.1 ?_ HM.2.2.1 HM.2.2.2;have e:grown st.L ⟨kn,a,[],[],-1⟩=st.L++[⟨kn,a,[],[],-1⟩]:=by unfold grown;rw[if_pos (by grind)]
        rw[e];exact HM.2.1
       go_wp2_with fail;go_meet;exact HO
      ·obtain⟨j,rfl⟩:∃j:Nat,up=(j:Int):=⟨up.toNat,by omega⟩;have hj:j<st.L.length:=by omega
       obtain⟨L1,qQ⟩:=ag (st.L++[(⟨kn,a,[],[],(j:Int)⟩:Nd)]);have XQ:Hid (grown st.L ⟨kn,a,[],[],(j:Int)⟩=L1.modify j fun u=>{u with kids:=u.kids++[st.L.length]}):=by show _=_;rw[<-qQ];exact kR st.L _ j rfl hj
       have hl1:L1.length=st.L.length+1:=by rw[<-qQ];simp
       have K9:(ae L1 j).kids.length<=1073741824:=by rw[<-qQ,cV hj];have:=XX j;omega
       obtain⟨Tr,OM⟩:=ag (fun(q:Nat)=>if q=st.L.length then Value.slice none 0 0 else KV6 q);obtain⟨AV1,zbY⟩:=ag (fun(q:Nat)=>if q=st.L.length then ab else AV6 q);obtain⟨r8,d8,f8,b8⟩:=HM.out;rw[qQ,OM,zbY]at d8;clear OM zbY qQ;obtain⟨g,cap,hv,T7,kV,_,_⟩:=d8.nr.form (by omega);simp only[hl1,Fb,true_and]at hv;obtain⟨rfl,rfl⟩:=hv;have SG:j<L1.length:=by omega
       have hkr:=d8.nr.kids j SG;obtain⟨pk,ck,hk'⟩:=dQ hkr;obtain⟨ks,hks⟩:=ag ((ae L1 j).kids);rw[hk',hks]at hkr;rw[hks]at hk' K9;have _r:=qH<|hkr;have e14:wc.cell? (az g (j*5+3))=some (.slice pk ks.length ck):=by rw[<-hk'];exact d8.nr.cells g rfl j SG 3 (Tr j) rfl
       have XS:Hid (some g≠(Value.slice pk ks.length ck).ownBlock):=by
        obtain⟨ys,hys⟩:=d8.nr.row;rcases gm (v':=Sq g (st.L.length+1) q1) hkr hys (by decide)with e|e;·show some g≠_;rw[e];simp
        ·exact fun e2=>e e2.symm
       have hrb:=FF.1;have fY:g≠rb:=by omega
       have f14:wc.frozen? (az g (j*5+3))=false:=d8.nr.frz rfl (j*5+3);have c2:=r8.c2;have Uu:(j:Int)<((st.L.length+1:Nat):Int):=by omega
       have IZ:(j:Int)<(st.L.length:Int)+1:=by omega
       have ziJ:=r8.lt;have D8:=qH<|d8;have R8:=qH<|r8;have F8:=qH<|f8;have JV:=qH<|hk';have HKS:=qH<|hks;have Ta:=qH<|hl1;obtain⟨i1,BE,Zt,hy1,SQ⟩:=info_parts EP;clear hkr d8 hk' hks r8 f8 hl1 HM;go_wp2_with fail;go_region_law(refine jR rfl (.tmp 83) (.tmp 85) 61 rfl B 3 i1 (Iq 0) 1 8 underlying61 BE Zt hy1 SQ rfl (by decide) (.slice pk ks.length ck) ks.length (kX ks) (by simp[Act.eval]) (td (w:=wc.drew) _r _) _ 1 1 [Iq (st.L.length:Int)] (by simp[Act.eval]) rfl (kM _ _ _ _ rfl) (by intro u hu;simp at hu;subst hu;rfl) (by unfold maxLen;omega) (by omega) (by simp;omega) ?_;intro v' w3 bD hg b9;obtain⟨p'',c'',hv'⟩:=dQ bD;subst hv';have jm:=qH<|RS.far ((R8.drewN 1).below ((aj _ _).alloc (ai _) _)) hg (fun g e=>(_r.lt g e).1) hrb;have k3:=jm.c2;have nC:=(hg.block g (zz008 kV (by simp)) XS).trans (heap_alloc_old _ _ kV);have k14:=(bU nC).trans e14;have Zz:=(qN nC).trans f14);all_goals
        have HO:Hid (RW w0 (w3.setCell (az g (j*5+3)) (.slice p'' (ks.length+1) c'')) rb B s i7 (grown st.L ⟨kn,a,[],[],(j:Int)⟩) (CJ (dC s kn st.L k f2)) uK (af:Int)):=by obtain⟨Sl,z1,z2,z3,z4⟩:=Z_ jm D8 Ta F8 b8 hrb T7 (by omega) JV HKS _ bD hg b9;refine Bn _ _ AV1 Sl z1 ?_ z3 z4;rw[XQ.out];exact z2
        clear jm hg b9 bD k3 nC k14 Zz;go_wp2_with fail;go_meet;exact HO
     case rest=>
      have H9:=hcut;clear hcut HM Bn;obtain⟨nv9,AV9,KV9,_V,_O,r9,fl9,d9⟩:=H9.mem;have c6:=r9.c6;have z6:=r9.fz 6;clear r9 fl9 d9;obtain⟨wd,MS⟩:=ag (wc.setCell (az rb 6) (Iq ((af:Int)+1)));have HD:Hid (RW w0 wd rb B s i7 (grown st.L ⟨kn,a,[],[],up⟩) (CJ (dC s kn st.L k f2)) uK ((af:Int)+1)):=by rw[<-MS];exact H9.setD _
      have hdb:(af:Int)<=1073741824:=by omega
      go_upto_block 0 with fail;clear MS c6 z6 H9;go_cut[9]from 97 to 125 (fun _ wx=>Hid (ip w0 wx rb B s ((af:Int)+1) st R));case first=>
       obtain⟨Gq,hG⟩:=ag (grown st.L ⟨kn,a,[],[],up⟩);have MF:Gq.length=st.L.length+1:=by rw[<-hG,dP]
       rw[hG]at HD;have IR:(((af+1:Nat)):Int)=(af:Int)+1:=by omega
       cases b9:dC s kn st.L k f2 with
       |error b=>
        have _z:Hid (R=.error b):=by show _=_;rw[fW.out,b9]
        have Gf:uK=(b:Int):=by have:=Sf.out;rw[b9]at this;exact this
        have HB:Hid (RW w0 wd rb B s i7 Gq none (b:Int) ((af:Int)+1)):=by have:=HD.out;rw[b9,Gf]at this;exact this
        clear b9 fW Sf HD;rcases(by omega:kn=0\/kn=1\/kn=2\/kn=3\/kn=4\/kn=5\/kn=6)with rfl|rfl|rfl|rfl|rfl|rfl|rfl;iterate 3 ·go_wp2_with fail;refine ao (PW rb B s i7 Gq none b ((af:Int)+1) (st.L.length:Int) w0 wd HB hs) ?_;rintro e we ⟨rfl,i',he⟩;have HE:=qH<|he;clear he;go_wp2_with fail;go_meet;exact ip.err _z ⟨_,_,_,HE⟩
        iterate 2
         ·have BV:Hid (Cw 55 #[Pq rb,.int .u8 91] wd fun e w'=>e=Rw (.tuple #[])/\RW w0 w' rb B s (mI s i7 91 b) Gq none (b:Int) ((af:Int)+1)):=by have:=gn 91 (by omega) HB hs;rw[mX]at this;exact this
          go_wp2_with fail;refine ao BV ?_;rintro e we ⟨rfl,he⟩;have HE:=qH<|he;clear he BV;go_wp2_with fail;refine ao (DU rb B s _ Gq none (b:Int) ((af:Int)+1) (st.L.length:Int) w0 we HE (by omega) hs) ?_;rintro e wg ⟨rfl,hg⟩;have BW:Hid (Cw 55 #[Pq rb,.int .u8 93] wg fun e w'=>e=Rw (.tuple #[])/\RW w0 w' rb B s (mI s (sk s (mI s i7 91 b)) 93 b) Gq none (b:Int) ((af:Int)+1)):=by have:=gn 93 (by omega) hg hs;rw[mX]at this;exact this
          clear hg;go_wp2_with fail;refine ao BW ?_;rintro e wh ⟨rfl,hh⟩;have HH:=qH<|hh;clear hh BW;go_wp2_with fail;go_meet;exact ip.err _z ⟨_,_,_,HH⟩
        ·go_wp2_with fail;refine ao (xS rb B s i7 Gq none b ((af:Int)+1) w0 wd HB hs) ?_;rintro e we ⟨rfl,i',he⟩;have HE:=qH<|he;obtain⟨gb,cap,c2,⟨u2,d2⟩,z2,kB,fY,hst⟩:=he.text (k:=st.L.length) (by rw[MF];omega);rw[MF]at c2 kB;have HST:Hid (RW w0 (we.setCell (az gb (st.L.length*5+2)) (.string ByteArray.empty)) rb B s i' (aH Gq st.L.length []) none (b:Int) ((af:Int)+1)):=hst [];clear he hst;have hlt:(st.L.length:Int)<((st.L.length+1:Nat):Int):=by omega
         have mM:(st.L.length:Int)<(st.L.length:Int)+1:=by omega
         go_wp2_with fail;go_meet;exact ip.err _z ⟨_,_,_,HST⟩
        ·go_wp2_with fail;go_meet;exact ip.err _z ⟨_,_,_,HB⟩
       |ok q=>
        obtain⟨i2,f3,a2⟩:=q;have hm:=Sf.out;rw[b9]at hm;obtain⟨Gf,pW,ha2,hfl⟩:=hm;have tD:=ym b9;have H1:Hid (RW w0 wd rb B s i7 Gq f3 (-1) ((af:Int)+1)):=by have:=HD.out;rw[b9,Gf]at this;exact this
        have Tl:Hid (R=jZ s kn st.L.length (de s f (st.L.length:Int) (af+1)) ⟨i7,Gq,f3⟩):=by show _=_;rw[fW.out,b9,<-hG,pW,ha2]
        have Fu:af+1<=i7:=by omega
        have xg:s.size<f+i7:=by omega
        have BE:st.i<=i7:=by omega
        have zpy:st.i<i7:=by omega
        clear b9 fW Sf HD hfl;rcases(by omega:kn=0\/kn=1\/kn=2\/kn=3\/kn=4\/kn=5\/kn=6)with rfl|rfl|rfl|rfl|rfl|rfl|rfl;iterate 3
         ·have ky:Hid (R=sF s (de s f (st.L.length:Int) (af+1)) ⟨i7,Gq,f3⟩):=Tl.out;have KC:Hid (Cw 54 #[Pq rb,Iq (st.L.length:Int)] wd fun e w'=>e=Rw (.tuple #[])/\ip w0 w' rb B s ((af:Int)+1) ⟨i7,Gq,f3⟩ (sF s (de s f (st.L.length:Int) (af+1)) ⟨i7,Gq,f3⟩)):=by have:=UU rb B s f HN hs st.L.length (af+1) ⟨i7,Gq,f3⟩ w0 wd (by rw[IR];exact H1) (by show st.L.length<_;rw[MF];omega) Fu xg;rw[IR]at this;exact this
          go_wp2_with fail;refine ao KC ?_;rintro e we ⟨rfl,he⟩;have HE:Hid (ip w0 we rb B s ((af:Int)+1) st R):=by show ip _ _ _ _ _ _ _ _;rw[ky.out];exact he.mono BE (by show st.L.length<=_;rw[MF];omega)
          clear he KC;go_wp2_with fail;go_meet;exact HE
        iterate 2
         ·have ky:Hid (R=match dd s i7 91 with
           |.error b=>.error b
           |.ok i2=>match de s f (st.L.length:Int) (af+1) ⟨i2,Gq,f3⟩with
            |.error b=>.error b
            |.ok eD=>match dd s eD.i 93 with
             |.error b=>.error b
             |.ok i4=>.ok {eD with i:=i4}):=Tl.out;have BV:Hid (Cw 55 #[Pq rb,.int .u8 91] wd fun e w'=>e=Rw (.tuple #[])/\RW w0 w' rb B s (aA s i7 91) Gq f3 (if aT s i7 91 then-1 else(sk s i7:Int)) ((af:Int)+1)):=by have:=gn 91 (by omega) H1 hs;rw[DM,vF]at this;exact this
          have BD:=cu s i7 91;by_cases hq:aT s i7 91=true
          ·have zpt:i7<aA s i7 91:=by rw[WJ hq];have:=dX s i7;omega
           have HR2:Hid (R=match de s f (st.L.length:Int) (af+1) ⟨aA s i7 91,Gq,f3⟩with
            |.error b=>.error b
            |.ok eD=>match dd s eD.i 93 with
             |.error b=>.error b
             |.ok i4=>.ok {eD with i:=i4}):=by show _=_;rw[ky.out];unfold dd;rw[if_pos hq]
           simp only[hq,if_true]at BV;clear ky hq;go_wp2_with fail;refine ao BV ?_;rintro e we ⟨rfl,he⟩;have NC:Hid (Cw 25 #[Pq rb,Iq (st.L.length:Int)] we fun e w'=>e=Rw (.tuple #[])/\ip w0 w' rb B s ((af:Int)+1) ⟨aA s i7 91,Gq,f3⟩ (de s f (st.L.length:Int) (af+1) ⟨aA s i7 91,Gq,f3⟩)):=by have:=HN (st.L.length:Int) (af+1) ⟨aA s i7 91,Gq,f3⟩ w0 we (by rw[IR];exact he) (.inr ⟨by omega,by show(st.L.length:Int)<(_:Nat);rw[MF];omega⟩) (by show af+1<=aA s i7 91;omega) (by show s.size<f+aA s i7 91;omega);rw[IR]at this;exact this
           clear he BV;go_wp2_with fail;cases hp:de s f (st.L.length:Int) (af+1) ⟨aA s i7 91,Gq,f3⟩with
           |error b=>
            have HR3:Hid (R=.error b):=by show _=_;rw[HR2.out,hp]
            rw[hp]at NC;clear hp HR2;refine ao NC ?_;rintro e wg ⟨rfl,ig,Lg,gg,hg⟩;have BW:Hid (Cw 55 #[Pq rb,.int .u8 93] wg fun e w'=>e=Rw (.tuple #[])/\RW w0 w' rb B s (mI s ig 93 b) Lg gg (b:Int) ((af:Int)+1)):=by have:=gn 93 (by omega) hg hs;rw[mX]at this;exact this
            clear hg NC;go_wp2_with fail;refine ao BW ?_;rintro e wh ⟨rfl,hh⟩;have HH:=qH<|hh;clear hh BW;go_wp2_with fail;go_meet;exact ip.err HR3 ⟨_,_,_,HH⟩
           |ok eD=>
            have HR3:Hid (R=match dd s eD.i 93 with
             |.error b=>.error b
             |.ok i4=>.ok {eD with i:=i4}):=by show _=_;rw[HR2.out,hp]
            rw[hp]at NC;clear hp HR2;refine ao NC ?_;rintro e wg ⟨rfl,hg,pg,lg⟩;have hpg:aA s i7 91<eD.i:=pg;have Zc:st.L.length+1<=eD.L.length:=by have:=lg;simp only at this;rw[MF]at this;exact this
            have zpu:=cu s eD.i 93;have BW:Hid (Cw 55 #[Pq rb,.int .u8 93] wg fun e w'=>e=Rw (.tuple #[])/\RW w0 w' rb B s (aA s eD.i 93) eD.L eD.er (if aT s eD.i 93 then-1 else(sk s eD.i:Int)) ((af:Int)+1)):=by have:=gn 93 (by omega) hg hs;rw[DM,vF]at this;exact this
            clear hg NC pg lg;go_wp2_with fail;refine ao BW ?_;rintro e wh ⟨rfl,hh⟩;have HH:Hid (ip w0 wh rb B s ((af:Int)+1) st R):=by
             show ip _ _ _ _ _ _ _ _;rw[HR3.out];unfold dd;by_cases hm:aT s eD.i 93=true;·rw[if_pos hm]at hh⊢;exact⟨hh,by show st.i<aA s eD.i 93;omega,by show st.L.length<=eD.L.length;omega⟩
             ·rw[if_neg hm]at hh⊢;exact⟨_,_,_,hh⟩
            clear hh BW;go_wp2_with fail;go_meet;exact HH
          ·have HR2:Hid (R=.error (sk s i7)):=by show _=_;rw[ky.out];unfold dd;rw[if_neg hq]
           rw[if_neg hq]at BV;clear ky hq;go_wp2_with fail;refine ao BV ?_;rintro e we ⟨rfl,he⟩;have HE:=qH<|he;clear he BV;go_wp2_with fail;refine ao (DU rb B s _ Gq f3 (sk s i7:Int) ((af:Int)+1) (st.L.length:Int) w0 we HE (by omega) hs) ?_;rintro e wg ⟨rfl,hg⟩;have BW:Hid (Cw 55 #[Pq rb,.int .u8 93] wg fun e w'=>e=Rw (.tuple #[])/\RW w0 w' rb B s (mI s (sk s (aA s i7 91)) 93 (sk s i7:Int)) Gq f3 (sk s i7:Int) ((af:Int)+1)):=by have:=gn 93 (by omega) hg hs;rw[mX]at this;exact this
           clear hg HE;go_wp2_with fail;refine ao BW ?_;rintro e wh ⟨rfl,hh⟩;have HH:=qH<|hh;clear hh BW;go_wp2_with fail;go_meet;exact ip.err HR2 ⟨_,_,_,HH⟩
        ·have ky:Hid (R=match fi s i7 with
          |.error b=>.error b
          |.ok (i2,t)=>.ok ⟨i2,aH Gq st.L.length t,f3⟩):=Tl.out;have QC:=L9 H1 hs;cases hp:fi s i7 with
         |error b=>
          have HR3:Hid (R=.error b):=by show _=_;rw[ky.out,hp]
          rw[hp]at QC;have QH:Hid (Cw 56 #[Pq rb] wd fun e w'=>e=Rw (.string ByteArray.empty)/\∃p,RW w0 w' rb B s p Gq f3 (b:Int) ((af:Int)+1)):=QC;clear hp ky QC;go_wp2_with fail;refine ao QH ?_;rintro e we ⟨rfl,i',he⟩;obtain⟨gb,cap,c2,⟨u2,d2⟩,z2,kB,fY,hst⟩:=he.text (k:=st.L.length) (by rw[MF];omega);rw[MF]at c2 kB;have HST:Hid (RW w0 (we.setCell (az gb (st.L.length*5+2)) (.string ByteArray.empty)) rb B s i' (aH Gq st.L.length []) f3 (b:Int) ((af:Int)+1)):=hst [];clear he hst QH;have hlt:(st.L.length:Int)<((st.L.length+1:Nat):Int):=by omega
          have mM:(st.L.length:Int)<(st.L.length:Int)+1:=by omega
          go_wp2_with fail;go_meet;exact ip.err HR3 ⟨_,_,_,HST⟩
         |ok q=>
          obtain⟨i2,tt⟩:=q;have HR3:Hid (R=.ok ⟨i2,aH Gq st.L.length tt,f3⟩):=by show _=_;rw[ky.out,hp]
          have Pk:=Jp hi7 hp;rw[hp]at QC;have QH:Hid (Cw 56 #[Pq rb] wd fun e w'=>e=Rw (.string ⟨tt.toArray⟩)/\RW w0 w' rb B s i2 Gq f3 (-1) ((af:Int)+1)):=QC;clear hp ky QC;go_wp2_with fail;refine ao QH ?_;rintro e we ⟨rfl,he⟩;obtain⟨gb,cap,c2,⟨u2,d2⟩,z2,kB,fY,hst⟩:=he.text (k:=st.L.length) (by rw[MF];omega);rw[MF]at c2 kB;have HST:=qH<|hst tt;clear he hst QH;have hlt:(st.L.length:Int)<((st.L.length+1:Nat):Int):=by omega
          have mM:(st.L.length:Int)<(st.L.length:Int)+1:=by omega
          go_wp2_with fail;go_meet;have hfin:ip w0 (we.setCell (az gb (st.L.length*5+2)) (.string ⟨tt.toArray⟩)) rb B s ((af:Int)+1) st R:=by rw[HR3.out];exact⟨HST,by show st.i<i2;omega,by show st.L.length<=(aH Gq st.L.length tt).length;rw[lN,MF];omega⟩
          exact hfin
        ·have ky:Hid (R=.ok ⟨i7,Gq,f3⟩):=Tl.out;have hfin:ip w0 wd rb B s ((af:Int)+1) st R:=by rw[ky.out];exact⟨H1,by show st.i<i7;omega,by show st.L.length<=_;rw[MF];omega⟩
         have HFN:=qH<|hfin;clear hfin;go_wp2_with fail;go_meet;exact HFN
      case rest=>
       have HO:=hcut;clear hcut;have HC:Hid (∃bad,(∃i L g,RW w0 wc rb B s i L g bad ((af:Int)+1))):=by
        have ho:=HO.out;cases R with
        |error b=>obtain⟨i,L,g,h⟩:=ho;exact⟨b,i,L,g,h⟩
        |ok cU=>exact⟨-1,_,_,_,ho.1⟩
       obtain⟨bz,iz,Lz,gz,hz⟩:=HC.out;obtain⟨nvz,AVz,KVz,erz,atz,rz,flz,dz⟩:=hz.mem;have c6:=rz.c6;have z6:=rz.fz 6;have iB:Hid (ip w0 (wc.setCell (az rb 6) (Iq (af:Int))) rb B s (af:Int) st R):=by
        have ho:=HO.out;cases R with
        |error b=>obtain⟨i,L,g,h⟩:=ho;exact⟨i,L,g,h.setD _⟩
        |ok cU=>exact⟨ho.1.setD _,ho.2⟩
       have e1:(af:Int)+1-1=(af:Int):=by omega
       clear rz flz dz hz HC HO;go_wp2;go_end0;exact⟨rfl,iB⟩
