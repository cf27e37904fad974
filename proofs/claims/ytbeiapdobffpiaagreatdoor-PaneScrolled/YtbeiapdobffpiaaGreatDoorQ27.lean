import Derived.Test.YtbeiapdobffpiaaGreatDoorQ25
import Derived.Deep.CutBlock
set_option linter.all false
set_option maxRecDepth 100000
set_option maxHeartbeats 16000000
namespace Go.Proofs.YtbeiapdobffpiaaGreatDoor
open Go.RowKit Go.Proofs.Tryz
section
variable{W W':World} {rb i:Nat} {s:ByteArray} {lv:Value} {bad er at_ aI:Int}
theorem RS.setL(h:RS W rb s i lv bad er at_ aI)  v  :RS (W.setCell (az rb 2) v) rb s i v bad er at_ aI:=
 ⟨by simpa using h.lt,aH (by omega) h.c0,aH (by omega) h.c1,gG h.c2,aH (by omega) h.c3,aH (by omega) h.c4,aH (by omega) h.c5,aH (by omega) h.c6,fun j=>by rw[gN];exact h.fz j⟩
theorem RS.setD(h:RS W rb s i lv bad er at_ aI)  d  :RS (W.setCell (az rb 6) (Iq d)) rb s i lv bad er at_ d:=
 ⟨by simpa using h.lt,aH (by omega) h.c0,aH (by omega) h.c1,aH (by omega) h.c2,aH (by omega) h.c3,aH (by omega) h.c4,aH (by omega) h.c5,gG h.c6,fun j=>by rw[gN];exact h.fz j⟩
theorem RS.far{o}{B}(h:RS W rb s i lv bad er at_ aI)(hg:W.grownBy W' o)(ho:∀g,o=some g->B<=g)(hr:rb<B):RS W' rb s i lv bad er at_ aI:=by have hb:=hg.block rb h.lt (fun e=>by grind);have k:∀j,W'.cell? (az rb j)=W.cell? (az rb j):=fun j=>bU hb;exact⟨bn h.lt hg.size,(k 0).trans h.c0,(k 1).trans h.c1,(k 2).trans h.c2,(k 3).trans h.c3,(k 4).trans h.c4,(k 5).trans h.c5,(k 6).trans h.c6,fun j=>(oz hb).trans (h.fz j)⟩
end
structure NM(W0 W:World)(rb B:Nat)(s:ByteArray)(i j:Nat)(L:List Nd)(f:fP)(aI:Int):Prop where
 rbB:rb<B
 le:B<=W.heap.size
 fr:Fr B rb W0 W
 mem:∃nv AV KV er at_,RS W rb s i nv (-1) er at_ aI/\FL er at_ f j/\RD W B nv L AV KV
theorem zH{W0 W}{rb B i j}{s}{L}{f}{aI}(h:NM W0 W rb B s i j L f aI)(c p:Nat)(hp:j<=p):
 Cw 50 #[Pq rb,Iq (c:Int),Iq (p:Int)] W fun r w'=>r=Rw (.tuple #[])/\NM W0 w' rb B s i p L (ib f c p) aI:=by obtain⟨nv,AV,KV,er,at_,h1,h2,h3⟩:=h.mem;refine(wrong_any rb s i nv (-1) er at_ aI c p W h1).mono ?_;rintro e w' ⟨rfl,r,g⟩;exact⟨rfl,h.rbB,aT h.le g.size,h.fr.trans (Fr.grown g h.le),nv,AV,KV,_,_,r,h2.add c p hp,h3.up (Up.grown g h.rbB)⟩
theorem NM.slice{W0 W}{rb B i j}{s}{L}{f}{aI}(h:NM W0 W rb B s i j L f aI):∃p c AV KV er at_,RS W rb s i (.slice p L.length c) (-1) er at_ aI/\FL er at_ f j/\RD W B (.slice p L.length c) L AV KV:=by obtain⟨nv,AV,KV,er,at_,h1,h2,h3⟩:=h.mem;obtain⟨p,c,rfl⟩:∃p c,nv=.slice p L.length c:=d_ h3.nr.row.choose_spec;grind
theorem TB:(prog.info? 107).map (fun i=>(i.zero,i.size,i.bytes))=some (some (.agg #[Iq 0,.slice none 0 0,.string ⟨#[]⟩,.slice none 0 0,Iq 0]),5,80):=by kernel_rfl
theorem TV  d   ab  :∀u∈jT d (Wu ab) (.slice none 0 0),u.oneCell'=true:=by intro u hu;unfold jT Wu at hu;simp at hu;rcases hu with rfl|rfl|rfl|rfl|rfl<;>rfl
theorem uw{s}{kind}{L}:∀  f i   er   a   seen   i2   dY   a2,dy s kind L f i er a seen=.ok (i2,dY,a2)->i<=i2
 |0,i,er,a,seen,i2,dY,a2,e=>by cases e
 |f+1,i,er,a,seen,i2,dY,a2,e=>by
  have pl:=jY s i (-1);have h1:=ma s kind L i er a seen (-1) (by omega);obtain⟨q,hq⟩:=aj (fa kind L er a seen (bm s i (-1)));rw[hq]at h1;obtain⟨f3,a3,s3⟩:=q;rcases h1 with⟨_,h1⟩|⟨_,h1⟩
  ·by_cases hm:aM s (bm s i (-1)).i 59=true;·rw[kw h1 hm]at e;have:=uw f _ _ _ _ _ _ _ e;grind[bS,bm]
   ·rw[ku h1 hm]at e;grind[kB,cz,bS,bm]
  simp_all[mc]
theorem ux{s}{kind}{L}{i}{er}{i2}{dY}{a2}(e:cY s kind L i er=.ok (i2,dY,a2)):i<=i2:=by
 unfold cY at e;split at e;·have:=uw _ _ _ _ _ _ _ _ e;grind[bS]
 grind[dx]
theorem JV  L  (d:Nd) (hd:d.kids=[]) (h:∀j,(ae L j).kids.length<=L.length) (q_:d.up=-1\/(0<=d.up/\d.up<L.length))  j  :(ae (grown L d) j).kids.length<=(grown L d).length:=by grind[di,ae,cu,cN,grown,jC,aY,aR]
theorem T5{w0 wc w3}{rb B g n1 c' j c:Nat}{s}{i}{v'}{bad er at_ aI}{L1}{YB}{NG}{pk}{ck}{ks}
 (hp:RS w3 rb s i (Sq g n1 c') bad er at_ aI) (hn:RD wc B (Sq g n1 c') L1 YB NG) (hl:L1.length=n1) (hf:Fr B rb w0 wc) (hB:B<=wc.heap.size) (hrb:rb<B) (Oh:B<=g) (hj:j<n1)
 (hk:NG j=.slice pk ks.length ck) (hks:(ae L1 j).kids=ks)  o  (ho:w3.ownsRow B 3 1 v' (ks.length+1) (jD ks++[Iq (c:Int)])) (hg:((wc.alloc o).drew).grownBy w3 (Value.slice pk ks.length ck).ownBlock)
 (bY:v'.ownBlock=(Value.slice pk ks.length ck).ownBlock\/v'.ownBlock=some ((wc.alloc o).drew).heap.size):
 ∃ML,RS (w3.setCell (az g (j*5+3)) v') rb s i (Sq g n1 c') bad er at_ aI/\RD (w3.setCell (az g (j*5+3)) v') B (Sq g n1 c') (L1.modify j fun u=>{u with kids:=u.kids++[c]}) YB ML/\Fr B rb w0 (w3.setCell (az g (j*5+3)) v')/\B<=(w3.setCell (az g (j*5+3)) v').heap.size:=by subst hl;have hkr:=hn.nr.kids j hj;rw[hk]at hkr;have jo:Bt wc (wc.alloc o).drew:=cI ((ag wc.heap.size wc).alloc (ai _) o) 1;have HN4:=hn.up (Up.below (B:=B) jo);have HN5:=HN4.kid (k:=j) (c:=c) (W':=w3) (kv':=v') hj (by grind[jD]) (by grind) (by grind);have HF3:Fr B rb wc w3:=(Fr.below jo hB).trans (Fr.own hg (aT hB jo.size) (fun g e=>(hkr.lt g e).1));have HF4:Fr B rb w3 (w3.setCell (az g (j*5+3)) v'):=Fr.own (bP w3 g _ _) (aT hB HF3.size) (fun q e=>by grind);exact⟨_,RS.far hp (bP w3 g _ _) (fun q e=>by grind) hrb,HN5,hf.trans (HF3.trans HF4),by have:=HF3.size;have:=HF4.size;omega⟩
theorem gh.err{W0 W'}{rb B}{s}{aI}{st}{r:Except Nat PS}{b}(hr:r=.error b)(h:∃i L g,RW W0 W' rb B s i L g (b:Int) aI):gh W0 W' rb B s aI st r:=by rw[hr];exact h
theorem gh.mono{W0 W'}{rb B}{s}{aI}{st cQ}{r}(h:gh W0 W' rb B s aI cQ r)(hi:st.i<=cQ.i)(hl:st.L.length<=cQ.L.length):gh W0 W' rb B s aI st r:=by
 cases r with
 |error b=>exact h
 |ok ct=>exact⟨h.1,Nat.lt_of_le_of_lt hi h.2.1,aT hl h.2.2⟩
def yD(r:Except Nat (Nat×fP×List Int)):fP:=match r with
 |.error _=>none
 |.ok (_,f,_)=>f
theorem RW.setD{W0 W}{rb B i}{s}{L}{f}{bad aI}(h:RW W0 W rb B s i L f bad aI)  d  :RW W0 (W.setCell (az rb 6) (Iq d)) rb B s i L f bad d:=by obtain⟨nv,AV,KV,er,at_,h1,h2,h3⟩:=h.mem;exact⟨h.il,h.ll,h.kl,h.rbB,by simpa[World.setCell]using h.le,h.fr.trans (Fr.set _ _),nv,AV,KV,er,at_,h1.setD d,h2,h3.up (Up.set _ h.rbB _)⟩
theorem GY(rb B:Nat)(s:ByteArray)(f:Nat)(hN:D9 rb B s f)(hs:s.size<=1073741824):D9 rb B s (f+1):=by
 intro up af st w0 w h q_ hd hf;have SK:=qH<|rw_skip h hs;have HN:=qH<|hN;have Gk:=h.il;have QU:=h.ll (by omega);have RM:=qH<|h.kl;obtain⟨a0,MS⟩:=aj (sk s st.i);have h0a:st.i<=a0:=by rw[<-MS];exact dx _ _
 have xM:a0<=s.size:=by rw[<-MS];exact eh s _ Gk
 have OU:sk s a0=a0:=by rw[<-MS,kZ]
 obtain⟨R,hR⟩:=aj (cC s (f+1) up af st);have HR:Hid (R=if run ap s a0=a0\/aJ b_ (s.extract a0 (run ap s a0)) 0<0 then .error a0 else match cY s (aJ b_ (s.extract a0 (run ap s a0)) 0).toNat st.L (run ap s a0) (bD (decide (12<=af)) (bD (decide (100<=st.L.length)) st.er 3 a0) 4 a0)with
  |.error b=>.error b
  |.ok (i2,dY,a)=>i_ s (aJ b_ (s.extract a0 (run ap s a0)) 0).toNat st.L.length (cC s f st.L.length (af+1)) {i:=i2,L:=grown st.L ⟨(aJ b_ (s.extract a0 (run ap s a0)) 0).toNat,a,[],[],up⟩,er:=dY}):=by show _=_;rw[<-hR,cC];simp only[MS];rfl
 have GB:=E8 (s:=s) (i:=a0) (-1) xM;rw[MS]at SK;rw[hR];clear h hN MS hR;go_enter func31,ntmps31;go_wp2_with fail;refine am SK ?_;rintro e w1 ⟨rfl,h1⟩;obtain⟨nv,AV,KV,er,at_,r1,f1,d1⟩:=h1.mem;have c1:=r1.c1;have H1:Hid (rb<B/\B<=w1.heap.size/\Fr B rb w0 w1/\FL er at_ st.er a0/\RD w1 B nv st.L AV KV):=⟨h1.rbB,h1.le,h1.fr,f1 (by omega),d1⟩;have WO:Hid (Cw 47 #[Pq rb] w1 fun e w'=>e=Rw (.string (s.extract a0 (run ap s a0)))/\RS w' rb s (run ap s a0) nv (if run ap s a0=a0 then(a0:Int)else-1) er at_ (af:Int)/\w1.grownBy w' (some rb)):=by
  have:=word_all rb s a0 nv (-1) er at_ (af:Int) w1 r1 (by omega) xM;have e1:wS s a0 (-1)=s.extract a0 (run ap s a0):=by unfold wS;rw[if_pos (by omega),OU]
  have e2:wI s a0 (-1)=run ap s a0:=by unfold wI;rw[if_pos (by omega),OU]
  have e3:wB s a0 (-1)=if run ap s a0=a0 then(a0:Int)else-1:=by unfold wB;rw[if_pos (by omega)];unfold iR;rw[OU]
  rw[e1,e2,e3]at this;exact this
 have dD:run ap s a0<=s.size:=iK _ _ _ xM;have OL:=iJ ap s a0;clear r1 f1 d1 h1 SK GB OU;obtain⟨k,hk⟩:=aj (run ap s a0);have HKK:=qH<|hk;rw[hk]at HR WO dD OL;clear hk;go_wp2_with fail;clear c1;refine am WO ?_;rintro e w2 ⟨rfl,r2,g2⟩;have H2:Hid (RS w2 rb s k nv (if k=a0 then(a0:Int)else-1) er at_ (af:Int)/\rb<B/\B<=w2.heap.size/\Fr B rb w0 w2/\FL er at_ st.er a0/\RD w2 B nv st.L AV KV):=⟨r2,H1.1,aT H1.2.1 g2.size,H1.2.2.1.trans (Fr.grown g2 H1.2.1),H1.2.2.2.1,H1.2.2.2.2.up (Up.grown g2 H1.1)⟩;clear r2 g2 WO H1;go_wp2_with fail;refine am (uS w2) ?_;rintro e w3 ⟨rfl,hn3,BE,b3⟩;have H3:Hid (RS w3 rb s k nv (if k=a0 then(a0:Int)else-1) er at_ (af:Int)/\rb<B/\B<=w3.heap.size/\Fr B rb w0 w3/\FL er at_ st.er a0/\RD w3 B nv st.L AV KV):=⟨H2.1.below b3,H2.2.1,aT H2.2.2.1 b3.size,H2.2.2.2.1.trans (Fr.below b3 H2.2.2.1),H2.2.2.2.2.1,H2.2.2.2.2.2.up (Up.below b3)⟩;have FI:=qH<|find_any b_ (s.extract a0 k) w2.heap.size 0 7 7 w3 BE hn3 rfl (by omega);have oS:=jB (s.extract a0 k) b_ 0;have hfl:b_.length=7:=rfl;have _w:Hid (k=a0->aJ b_ (s.extract a0 k) 0=-1):=fun e=>by grind[rP,rR]
 obtain⟨kd,hkd⟩:=aj (aJ b_ (s.extract a0 k) 0);rw[hkd]at HR FI oS _w;generalize s.extract a0 k=tx at FI⊢;clear hkd hn3 BE b3 H2;go_wp2_with fail;refine am FI ?_;rintro e w4 ⟨rfl,Im⟩;obtain rfl:=Im.symm;clear FI;by_cases jl:kd<0
 ·have zb7:kd=-1:=by omega
  subst zb7;have eZ:Hid (R=.error a0):=by show _=_;rw[HR.out,if_pos (.inr (by omega))]
  have FA:Hid (Cw 33 #[Pq rb,Iq (a0:Int)] w3 fun e w'=>e=Rw (.tuple #[])/\RS w' rb s k nv (a0:Int) er at_ (af:Int)/\w3.grownBy w' (some rb)):=by
   have:=fail_any rb s k nv (if k=a0 then(a0:Int)else-1) er at_ (af:Int) (a0:Int) w3 H3.1;have e:fD (if k=a0 then(a0:Int)else-1) (a0:Int)=a0:=by
    unfold fD;by_cases e:k=a0;·omega
    ·omega
   rw[e]at this;exact this
  clear HR jl;go_wp2_with fail;refine am FA ?_;rintro e w5 ⟨rfl,r5,g5⟩;have H5:Hid (RW w0 w5 rb B s k st.L st.er (a0:Int) (af:Int)):=⟨dD,fun e=>by omega,RM,H3.2.1,aT H3.2.2.1 g5.size,H3.2.2.2.1.trans (Fr.grown g5 H3.2.2.1),nv,AV,KV,er,at_,r5,fun e=>by omega,H3.2.2.2.2.2.up (Up.grown g5 H3.2.1)⟩;have c3:=r5.c3;have qC:decide ((0:Int)<=(a0:Int))=true:=decide_eq_true (by omega);clear r5 g5 FA;go_wp2;refine bodyPost_ret (results_none rfl _ _ _) rfl ?_;refine⟨rfl,?_⟩;show gh _ _ _ _ _ _ _ _;rw[eZ.out];exact⟨_,_,_,H5⟩
 ·obtain⟨kn,rfl⟩:∃z:Nat,kd=z:=⟨kd.toNat,by omega⟩;have M7:kn<7:=by omega
  have Ii:k≠a0:=fun e=>by have:=_w e;omega
  have eZ:Hid (R=match cY s kn st.L k (bD (decide (12<=af)) (bD (decide (100<=st.L.length)) st.er 3 a0) 4 a0)with
   |.error b=>.error b
   |.ok (i2,dY,a)=>i_ s kn st.L.length (cC s f st.L.length (af+1)) {i:=i2,L:=grown st.L ⟨kn,a,[],[],up⟩,er:=dY}):=by show _=_;rw[HR.out,if_neg (by omega)];rfl
  have Cq:decide ((kn:Int)<0)=false:=decide_eq_false (by omega);have M3:Hid (NM w0 w3 rb B s k a0 st.L st.er (af:Int)):=by have hh:=H3.out;rw[if_neg Ii]at hh;exact⟨hh.2.1,hh.2.2.1,hh.2.2.2.1,nv,AV,KV,er,at_,hh.1,hh.2.2.2.2.1,hh.2.2.2.2.2⟩
  clear HR jl H3 _w oS hfl;obtain⟨pn,cn,AV3,KV3,Zo,at3,r3,f3,d3⟩:=M3.slice;have c2:=r3.c2;have c3:=r3.c3;clear r3 f3 d3;go_upto_if 36 with fail;clear c2 c3;go_cut[36,39]from 37 to 38 (fun _ _ wx=>Hid (NM w0 wx rb B s k a0 st.L (bD (decide (100<=st.L.length)) st.er 3 a0) (af:Int)));case first=>
   by_cases hc:100<=st.L.length
   ·have QP:decide ((100:Int)<=(st.L.length:Int))=true:=decide_eq_true (by omega);have BC:=decide_eq_true hc;have WR:Hid (Cw 50 #[Pq rb,Iq 3,Iq (a0:Int)] w3 fun r w'=>r=Rw (.tuple #[])/\NM w0 w' rb B s k a0 st.L (bD (decide (100<=st.L.length)) st.er 3 a0) (af:Int)):=by rw[BC];exact zH M3 3 a0 (ai _)
    clear BC;go_wp2_with fail;refine am WR ?_;rintro e wn ⟨rfl,hn⟩;have MN:=qH<|hn;clear hn WR;go_wp2_with fail;go_meet;exact MN
   ·have QP:decide ((100:Int)<=(st.L.length:Int))=false:=decide_eq_false (by omega);have BC:=decide_eq_false hc;have MN:Hid (NM w0 w3 rb B s k a0 st.L (bD (decide (100<=st.L.length)) st.er 3 a0) (af:Int)):=by rw[BC];exact M3
    clear BC;go_wp2_with fail;go_meet;exact MN
  case rest=>
   obtain⟨f1,Ct⟩:=aj (bD (decide (100<=st.L.length)) st.er 3 a0);rw[Ct]at hcut eZ;have M5:=hcut;clear Ct hcut M3;obtain⟨pn5,cn5,AV5,KV5,er5,at5,r5,f5,d5⟩:=M5.slice;have c6:=r5.c6;clear r5 f5 d5;go_upto_if 44 with fail;clear c6;go_cut[44,47]from 45 to 46 (fun _ _ wx=>Hid (NM w0 wx rb B s k a0 st.L (bD (decide (12<=af)) f1 4 a0) (af:Int)));case first=>
    by_cases hc:12<=af
    ·have QP:decide ((12:Int)<=(af:Int))=true:=decide_eq_true (by omega);have BC:=decide_eq_true hc;have WR:Hid (Cw 50 #[Pq rb,Iq 4,Iq (a0:Int)] wc fun r w'=>r=Rw (.tuple #[])/\NM w0 w' rb B s k a0 st.L (bD (decide (12<=af)) f1 4 a0) (af:Int)):=by rw[BC];exact zH M5 4 a0 (ai _)
     clear BC;go_wp2_with fail;refine am WR ?_;rintro e wn ⟨rfl,hn⟩;have MN:=qH<|hn;clear hn WR;go_wp2_with fail;go_meet;exact MN
    ·have QP:decide ((12:Int)<=(af:Int))=false:=decide_eq_false (by omega);have BC:=decide_eq_false hc;have MN:Hid (NM w0 wc rb B s k a0 st.L (bD (decide (12<=af)) f1 4 a0) (af:Int)):=by rw[BC];exact M5
     clear BC;go_wp2_with fail;go_meet;exact MN
   case rest=>
    obtain⟨f2,hf2⟩:=aj (bD (decide (12<=af)) f1 4 a0);rw[hf2]at hcut eZ;have M6:=hcut;clear hf2 hcut M5;obtain⟨p6,q6,YC,V_,er6,at6,r6,fl6,d6⟩:=M6.slice;have c2:=r6.c2;have AT:=qH<|attrs_any rb s k (.slice p6 st.L.length q6) (-1) er6 at6 (af:Int) kn st.L f2 wc r6 (fl6.on OL) (d6.ids M6.rbB) hs dD (by omega) M7 (by omega);have D6:=qH<|d6;clear r6 fl6 d6;go_wp2_with fail;clear c2;refine am AT ?_;rintro e w7 ⟨ab,a,i7,rH,WE,Ws,rfl,hab,Ta,hra,g7,r7,hi7,hm7⟩;have D7:=qH<|D6.up (Up.grown g7 M6.rbB);have R7:=qH<|r7;have A7:=qH<|hra;have Fu:Hid (rb<B/\B<=w7.heap.size/\Fr B rb w0 w7/\B<=ab):=⟨M6.rbB,aT M6.le g7.size,M6.fr.trans (Fr.grown g7 M6.le),aT M6.le hab⟩;have HSK:Hid ((∀j,j<st.L.length->(V_ j).ownBlock≠some ab)/\(Value.slice p6 st.L.length q6).ownBlock≠some ab):=by obtain⟨xs,hx⟩:=D6.nr.row;exact⟨fun j hj e=>by have:=((D6.nr.kids j hj).lt ab e).2;omega,fun e=>by have:=(hx.lt ab e).2;omega⟩
    have MH:Hid (match cY s kn st.L k f2 with
     |.error b=>rH=(b:Int)
     |.ok (i2,f3,a2)=>rH=-1/\i7=i2/\a=a2/\FL WE Ws f3 i2):=hm7;clear hab hra g7 r7 hm7 AT M6 D6;obtain⟨i0,Gj,eK,fZ,iD⟩:=info_parts TB;obtain⟨xs,hxs⟩:=D7.nr.row;have HX:=qH<|hxs;clear hxs;have c2:=R7.c2;go_upto_region 13 with fail;go_cut[8]from 56 to 68 (fun v wx=>v=Sq ab 12 12/\∃p1 q1,Hid (RS wx rb s i7 (.slice p1 (st.L.length+1) q1) rH WE Ws (af:Int)/\RD wx B (.slice p1 (st.L.length+1) q1) (st.L++[⟨kn,a,[],[],up⟩]) (fun j=>if j=st.L.length then ab else YC j) (fun j=>if j=st.L.length then .slice none 0 0 else V_ j)/\Fr B rb w0 wx/\B<=wx.heap.size));case first=>
     go_wp2_with(at_builtin;refine wpList_append_own_at _ rfl _ _ 59 rfl B 107 i0 _ 5 80 underlying59 Gj eK fZ iD rfl (by decide) _ _ _ rfl (HX.alloc _) _ 1 1 (jT ⟨kn,a,[],[],up⟩ (Wu ab) (.slice none 0 0)) rfl rfl (ju _ _ _ _ rfl) (TV _ _) (by unfold maxLen;omega) (by omega) (by rw[aO];have:=Fu.2.1;omega) ?_);intro v1 w8 o8 g8 _ Xe;obtain⟨p1,q1,zl⟩:=d_ o8;subst zl;have bA:=(ag w7.heap.size w7).alloc (ai _) (.cells #[Iq (kn:Int),Sq ab 12 12,.string ⟨#[]⟩,.slice none 0 0,Iq up] 107);have Xf:(Value.slice p1 (st.L.length+1) q1).ownBlock=(Value.slice p6 st.L.length q6).ownBlock\/(Value.slice p1 (st.L.length+1) q1).ownBlock=some (w7.alloc (.cells #[Iq (kn:Int),Sq ab 12 12,.string ⟨#[]⟩,.slice none 0 0,Iq up] 107)).heap.size:=by rw[aO];exact Xe
     have R8:=qH<|RS.far (R7.below bA) g8 (fun g e=>(HX.lt g e).1) Fu.1;have D8:=qH<|RD.app (D7.up (Up.below bA)) (HX.alloc _) o8 g8 Xf Ta rfl Fu.2.2.2 (A7.below bA) HSK.1 HSK.2;have F8:Hid (Fr B rb w0 w8/\B<=w8.heap.size):=by have hz:=bA.size;have iD:=Fu.2.1;exact⟨Fu.2.2.1.trans ((Fr.below bA iD).trans (Fr.own g8 (by omega) (fun g e=>(HX.lt g e).1))),by have:=g8.size;omega⟩
     have k2:=R8.c2;have kf:=R8.fz 2;obtain⟨w9,X_⟩:=aj (w8.setCell (az rb 2) (.slice p1 (st.L.length+1) q1));have HQ:Hid (RS w9 rb s i7 (.slice p1 (st.L.length+1) q1) rH WE Ws (af:Int)/\RD w9 B (.slice p1 (st.L.length+1) q1) (st.L++[⟨kn,a,[],[],up⟩]) (fun j=>if j=st.L.length then ab else YC j) (fun j=>if j=st.L.length then .slice none 0 0 else V_ j)/\Fr B rb w0 w9/\B<=w9.heap.size):=by rw[<-X_];exact⟨R8.setL _,D8.up (Up.set _ Fu.1 _),F8.1.trans (Fr.set _ _),by simpa[World.setCell]using F8.2⟩
     clear o8 g8 Xe Xf bA;go_wp2_with fail;go_meet;grind
    case rest=>
     obtain⟨rfl,p1,q1,HM⟩:=hcut;clear HX c2 Gj eK fZ iD D7 R7 A7 HSK;have xH:Hid (∀wx nv AV KV,RS wx rb s i7 nv rH WE Ws (af:Int)->RD wx B nv (grown st.L ⟨kn,a,[],[],up⟩) AV KV->Fr B rb w0 wx->B<=wx.heap.size->RW w0 wx rb B s i7 (grown st.L ⟨kn,a,[],[],up⟩) (yD (cY s kn st.L k f2)) rH (af:Int)):=fun wx nv AV KV h1 h2 h3 h4=>by
      refine⟨hi7,fun hb=>?_,JV _ _ rfl RM q_,Fu.1,h4,h3,nv,AV,KV,WE,Ws,h1,fun hb=>?_,h2⟩;·have hm:=MH.out;rw[di];cases bY:cY s kn st.L k f2 with
       |error b=>grind
       |ok q=>obtain⟨i2,f3,a2⟩:=q;rw[bY]at hm;have:=ux bY;omega
      ·have hm:=MH.out;cases bY:cY s kn st.L k f2 with
       |error b=>grind
       |ok q=>obtain⟨i2,f3,a2⟩:=q;rw[bY]at hm;have h5:=hm.2.2.2;rw[<-hm.2.1]at h5;exact h5
     go_upto_if 70 with fail;go_cut[70,88]from 71 to 87 (fun _ _ wx=>Hid (RW w0 wx rb B s i7 (grown st.L ⟨kn,a,[],[],up⟩) (yD (cY s kn st.L k f2)) rH (af:Int)));case first=>
      rcases q_ with rfl|⟨hu0,CY⟩
      ·have HO:Hid (RW w0 wc rb B s i7 (grown st.L ⟨kn,a,[],[],-1⟩) (yD (cY s kn st.L k f2)) rH (af:Int)):=by
        refine xH wc (.slice p1 (st.L.length+1) q1) (fun j=>if j=st.L.length then ab else YC j) (fun j=>if j=st.L.length then .slice none 0 0 else V_ j) HM.1 ?_ HM.2.2.1 HM.2.2.2;have e:grown st.L ⟨kn,a,[],[],-1⟩=st.L++[⟨kn,a,[],[],-1⟩]:=by unfold grown;rw[if_pos (by grind)]
        rw[e];exact HM.2.1
       go_wp2_with fail;go_meet;exact HO
      ·obtain⟨j,rfl⟩:∃j:Nat,up=(j:Int):=⟨up.toNat,by omega⟩;have hj:j<st.L.length:=by omega
       obtain⟨L1,oD⟩:=aj (st.L++[(⟨kn,a,[],[],(j:Int)⟩:Nd)]);have RG:Hid (grown st.L ⟨kn,a,[],[],(j:Int)⟩=L1.modify j fun u=>{u with kids:=u.kids++[st.L.length]}):=by show _=_;rw[<-oD];exact jC st.L _ j rfl hj
       have hl1:L1.length=st.L.length+1:=by rw[<-oD];simp
       have Gm:(ae L1 j).kids.length<=1073741824:=by rw[<-oD,cu hj];have:=RM j;omega
       obtain⟨NG,JX⟩:=aj (fun(q:Nat)=>if q=st.L.length then Value.slice none 0 0 else V_ q);obtain⟨YB,WQ⟩:=aj (fun(q:Nat)=>if q=st.L.length then ab else YC q);obtain⟨r8,d8,f8,b8⟩:=HM.out;rw[oD,JX,WQ]at d8;clear JX WQ oD;obtain⟨g,al,hv,Oh,iU,_,_⟩:=d8.nr.form (by omega);simp only[hl1,Bj,true_and]at hv;obtain⟨rfl,rfl⟩:=hv;have MZ:j<L1.length:=by omega
       have hkr:=d8.nr.kids j MZ;obtain⟨pk,ck,hk'⟩:=d_ hkr;obtain⟨ks,hks⟩:=aj ((ae L1 j).kids);rw[hk',hks]at hkr;rw[hks]at hk' Gm;have Ul:=qH<|hkr;have Zn:wc.cell? (az g (j*5+3))=some (.slice pk ks.length ck):=by rw[<-hk'];exact d8.nr.cells g rfl j MZ 3 (NG j) rfl
       have RI:Hid (some g≠(Value.slice pk ks.length ck).ownBlock):=by
        obtain⟨ys,hys⟩:=d8.nr.row;rcases ff (v':=Sq g (st.L.length+1) q1) hkr hys (by decide)with e|e;·show some g≠_;rw[e];simp
        ·exact fun e2=>e e2.symm
       have hrb:=Fu.1;have fQ:g≠rb:=by omega
       have f14:wc.frozen? (az g (j*5+3))=false:=d8.nr.frz rfl (j*5+3);have c2:=r8.c2;have OJ:(j:Int)<((st.L.length+1:Nat):Int):=by omega
       have EC:(j:Int)<(st.L.length:Int)+1:=by omega
       have zcH:=r8.lt;have D8:=qH<|d8;have R8:=qH<|r8;have F8:=qH<|f8;have Fx:=qH<|hk';have _O:=qH<|hks;have Nj:=qH<|hl1;obtain⟨i1,BD,Tu,Z6,Z7⟩:=info_parts AO;clear hkr d8 hk' hks r8 f8 hl1 HM;go_wp2_with fail;go_region_law(refine iN rfl (.tmp 83) (.tmp 85) 98 rfl B 3 i1 (Iq 0) 1 8 underlying98 BD Tu Z6 Z7 rfl (by decide) (.slice pk ks.length ck) ks.length (jD ks) (by simp[Act.eval]) (Fl (w:=wc.drew) Ul _) _ 1 1 [Iq (st.L.length:Int)] (by simp[Act.eval]) rfl (ju _ _ _ _ rfl) (by intro u hu;simp at hu;subst hu;rfl) (by unfold maxLen;omega) (by omega) (by simp;omega) ?_;intro v' w3 bK hg bY;obtain⟨p'',c'',X6⟩:=d_ bK;subst X6;have h_:=qH<|RS.far ((R8.drewN 1).below ((ag _ _).alloc (ai _) _)) hg (fun g e=>(Ul.lt g e).1) hrb;have k3:=h_.c2;have lz:=(hg.block g (bn iU (by simp)) RI).trans (heap_alloc_old _ _ iU);have k14:=(bU lz).trans Zn;have TE:=(oz lz).trans f14);all_goals
        have HO:Hid (RW w0 (w3.setCell (az g (j*5+3)) (.slice p'' (ks.length+1) c'')) rb B s i7 (grown st.L ⟨kn,a,[],[],(j:Int)⟩) (yD (cY s kn st.L k f2)) rH (af:Int)):=by obtain⟨ML,z1,z2,z3,z4⟩:=T5 h_ D8 Nj F8 b8 hrb Oh (by omega) Fx _O _ bK hg bY;refine xH _ _ YB ML z1 ?_ z3 z4;rw[RG.out];exact z2
        clear h_ hg bY bK k3 lz k14 TE;go_wp2_with fail;go_meet;exact HO
     case rest=>
      have H9:=hcut;clear hcut HM xH;obtain⟨nv9,AV9,KV9,UM,UJ,r9,fl9,d9⟩:=H9.mem;have c6:=r9.c6;have z6:=r9.fz 6;clear r9 fl9 d9;obtain⟨wd,Rb⟩:=aj (wc.setCell (az rb 6) (Iq ((af:Int)+1)));have HD:Hid (RW w0 wd rb B s i7 (grown st.L ⟨kn,a,[],[],up⟩) (yD (cY s kn st.L k f2)) rH ((af:Int)+1)):=by rw[<-Rb];exact H9.setD _
      have ZG:(af:Int)<=1073741824:=by omega
      go_upto_block 0 with fail;clear Rb c6 z6 H9;go_cut[9]from 97 to 125 (fun _ wx=>Hid (gh w0 wx rb B s ((af:Int)+1) st R));case first=>
       obtain⟨Gq,hG⟩:=aj (grown st.L ⟨kn,a,[],[],up⟩);have Ie:Gq.length=st.L.length+1:=by rw[<-hG,di]
       rw[hG]at HD;have Ex:(((af+1:Nat)):Int)=(af:Int)+1:=by omega
       cases bY:cY s kn st.L k f2 with
       |error b=>
        have Ut:Hid (R=.error b):=by show _=_;rw[eZ.out,bY]
        have Co:rH=(b:Int):=by have:=MH.out;rw[bY]at this;exact this
        have HB:Hid (RW w0 wd rb B s i7 Gq none (b:Int) ((af:Int)+1)):=by have:=HD.out;rw[bY,Co]at this;exact this
        clear bY eZ MH HD;rcases(by omega:kn=0\/kn=1\/kn=2\/kn=3\/kn=4\/kn=5\/kn=6)with rfl|rfl|rfl|rfl|rfl|rfl|rfl;iterate 3 ·go_wp2_with fail;refine am (KJ rb B s i7 Gq none b ((af:Int)+1) (st.L.length:Int) w0 wd HB hs) ?_;rintro e we ⟨rfl,i',he⟩;have HE:=qH<|he;clear he;go_wp2_with fail;go_meet;exact gh.err Ut ⟨_,_,_,HE⟩
        iterate 2
         ·have yc:Hid (Cw 53 #[Pq rb,.int .u8 91] wd fun e w'=>e=Rw (.tuple #[])/\RW w0 w' rb B s (mI s i7 91 b) Gq none (b:Int) ((af:Int)+1)):=by have:=fg 91 (by omega) HB hs;rw[kR]at this;exact this
          go_wp2_with fail;refine am yc ?_;rintro e we ⟨rfl,he⟩;have HE:=qH<|he;clear he yc;go_wp2_with fail;refine am (zK rb B s _ Gq none (b:Int) ((af:Int)+1) (st.L.length:Int) w0 we HE (by omega) hs) ?_;rintro e wg ⟨rfl,hg⟩;have ye:Hid (Cw 53 #[Pq rb,.int .u8 93] wg fun e w'=>e=Rw (.tuple #[])/\RW w0 w' rb B s (mI s (sk s (mI s i7 91 b)) 93 b) Gq none (b:Int) ((af:Int)+1)):=by have:=fg 93 (by omega) hg hs;rw[kR]at this;exact this
          clear hg;go_wp2_with fail;refine am ye ?_;rintro e wh ⟨rfl,hh⟩;have HH:=qH<|hh;clear hh ye;go_wp2_with fail;go_meet;exact gh.err Ut ⟨_,_,_,HH⟩
        ·go_wp2_with fail;refine am (ua rb B s i7 Gq none b ((af:Int)+1) w0 wd HB hs) ?_;rintro e we ⟨rfl,i',he⟩;have HE:=qH<|he;obtain⟨gb,al,c2,⟨u2,d2⟩,z2,kG,fQ,hst⟩:=he.text (k:=st.L.length) (by rw[Ie];omega);rw[Ie]at c2 kG;have HST:Hid (RW w0 (we.setCell (az gb (st.L.length*5+2)) (.string ByteArray.empty)) rb B s i' (aB Gq st.L.length []) none (b:Int) ((af:Int)+1)):=hst [];clear he hst;have hlt:(st.L.length:Int)<((st.L.length+1:Nat):Int):=by omega
         have qD:(st.L.length:Int)<(st.L.length:Int)+1:=by omega
         go_wp2_with fail;go_meet;exact gh.err Ut ⟨_,_,_,HST⟩
        ·go_wp2_with fail;go_meet;exact gh.err Ut ⟨_,_,_,HB⟩
       |ok q=>
        obtain⟨i2,f3,a2⟩:=q;have hm:=MH.out;rw[bY]at hm;obtain⟨Co,nt,ha2,hfl⟩:=hm;have qC:=ux bY;have H1:Hid (RW w0 wd rb B s i7 Gq f3 (-1) ((af:Int)+1)):=by have:=HD.out;rw[bY,Co]at this;exact this
        have Nw:Hid (R=i_ s kn st.L.length (cC s f (st.L.length:Int) (af+1)) ⟨i7,Gq,f3⟩):=by show _=_;rw[eZ.out,bY,<-hG,nt,ha2]
        have BB:af+1<=i7:=by omega
        have Ct:s.size<f+i7:=by omega
        have BD:st.i<=i7:=by omega
        have zjn:st.i<i7:=by omega
        clear bY eZ MH HD hfl;rcases(by omega:kn=0\/kn=1\/kn=2\/kn=3\/kn=4\/kn=5\/kn=6)with rfl|rfl|rfl|rfl|rfl|rfl|rfl;iterate 3
         ·have jg:Hid (R=pU s (cC s f (st.L.length:Int) (af+1)) ⟨i7,Gq,f3⟩):=Nw.out;have KC:Hid (Cw 52 #[Pq rb,Iq (st.L.length:Int)] wd fun e w'=>e=Rw (.tuple #[])/\gh w0 w' rb B s ((af:Int)+1) ⟨i7,Gq,f3⟩ (pU s (cC s f (st.L.length:Int) (af+1)) ⟨i7,Gq,f3⟩)):=by have:=O8 rb B s f HN hs st.L.length (af+1) ⟨i7,Gq,f3⟩ w0 wd (by rw[Ex];exact H1) (by show st.L.length<_;rw[Ie];omega) BB Ct;rw[Ex]at this;exact this
          go_wp2_with fail;refine am KC ?_;rintro e we ⟨rfl,he⟩;have HE:Hid (gh w0 we rb B s ((af:Int)+1) st R):=by show gh _ _ _ _ _ _ _ _;rw[jg.out];exact he.mono BD (by show st.L.length<=_;rw[Ie];omega)
          clear he KC;go_wp2_with fail;go_meet;exact HE
        iterate 2
         ·have jg:Hid (R=match cz s i7 91 with
           |.error b=>.error b
           |.ok i2=>match cC s f (st.L.length:Int) (af+1) ⟨i2,Gq,f3⟩with
            |.error b=>.error b
            |.ok dE=>match cz s dE.i 93 with
             |.error b=>.error b
             |.ok i4=>.ok {dE with i:=i4}):=Nw.out;have yc:Hid (Cw 53 #[Pq rb,.int .u8 91] wd fun e w'=>e=Rw (.tuple #[])/\RW w0 w' rb B s (ao s i7 91) Gq f3 (if aM s i7 91 then-1 else(sk s i7:Int)) ((af:Int)+1)):=by have:=fg 91 (by omega) H1 hs;rw[zC,sD]at this;exact this
          have xN:=bS s i7 91;by_cases hq:aM s i7 91=true
          ·have zji:i7<ao s i7 91:=by rw[QJ hq];have:=dx s i7;omega
           have HR2:Hid (R=match cC s f (st.L.length:Int) (af+1) ⟨ao s i7 91,Gq,f3⟩with
            |.error b=>.error b
            |.ok dE=>match cz s dE.i 93 with
             |.error b=>.error b
             |.ok i4=>.ok {dE with i:=i4}):=by show _=_;rw[jg.out];unfold cz;rw[if_pos hq]
           simp only[hq,if_true]at yc;clear jg hq;go_wp2_with fail;refine am yc ?_;rintro e we ⟨rfl,he⟩;have NC:Hid (Cw 31 #[Pq rb,Iq (st.L.length:Int)] we fun e w'=>e=Rw (.tuple #[])/\gh w0 w' rb B s ((af:Int)+1) ⟨ao s i7 91,Gq,f3⟩ (cC s f (st.L.length:Int) (af+1) ⟨ao s i7 91,Gq,f3⟩)):=by have:=HN (st.L.length:Int) (af+1) ⟨ao s i7 91,Gq,f3⟩ w0 we (by rw[Ex];exact he) (.inr ⟨by omega,by show(st.L.length:Int)<(_:Nat);rw[Ie];omega⟩) (by show af+1<=ao s i7 91;omega) (by show s.size<f+ao s i7 91;omega);rw[Ex]at this;exact this
           clear he yc;go_wp2_with fail;cases hp:cC s f (st.L.length:Int) (af+1) ⟨ao s i7 91,Gq,f3⟩with
           |error b=>
            have HR3:Hid (R=.error b):=by show _=_;rw[HR2.out,hp]
            rw[hp]at NC;clear hp HR2;refine am NC ?_;rintro e wg ⟨rfl,ig,Lg,gg,hg⟩;have ye:Hid (Cw 53 #[Pq rb,.int .u8 93] wg fun e w'=>e=Rw (.tuple #[])/\RW w0 w' rb B s (mI s ig 93 b) Lg gg (b:Int) ((af:Int)+1)):=by have:=fg 93 (by omega) hg hs;rw[kR]at this;exact this
            clear hg NC;go_wp2_with fail;refine am ye ?_;rintro e wh ⟨rfl,hh⟩;have HH:=qH<|hh;clear hh ye;go_wp2_with fail;go_meet;exact gh.err HR3 ⟨_,_,_,HH⟩
           |ok dE=>
            have HR3:Hid (R=match cz s dE.i 93 with
             |.error b=>.error b
             |.ok i4=>.ok {dE with i:=i4}):=by show _=_;rw[HR2.out,hp]
            rw[hp]at NC;clear hp HR2;refine am NC ?_;rintro e wg ⟨rfl,hg,pg,lg⟩;have hpg:ao s i7 91<dE.i:=pg;have hlg:st.L.length+1<=dE.L.length:=by have:=lg;simp only at this;rw[Ie]at this;exact this
            have zjj:=bS s dE.i 93;have ye:Hid (Cw 53 #[Pq rb,.int .u8 93] wg fun e w'=>e=Rw (.tuple #[])/\RW w0 w' rb B s (ao s dE.i 93) dE.L dE.er (if aM s dE.i 93 then-1 else(sk s dE.i:Int)) ((af:Int)+1)):=by have:=fg 93 (by omega) hg hs;rw[zC,sD]at this;exact this
            clear hg NC pg lg;go_wp2_with fail;refine am ye ?_;rintro e wh ⟨rfl,hh⟩;have HH:Hid (gh w0 wh rb B s ((af:Int)+1) st R):=by
             show gh _ _ _ _ _ _ _ _;rw[HR3.out];unfold cz;by_cases hm:aM s dE.i 93=true;·rw[if_pos hm]at hh⊢;exact⟨hh,by show st.i<ao s dE.i 93;omega,by show st.L.length<=dE.L.length;omega⟩
             ·rw[if_neg hm]at hh⊢;exact⟨_,_,_,hh⟩
            clear hh ye;go_wp2_with fail;go_meet;exact HH
          ·have HR2:Hid (R=.error (sk s i7)):=by show _=_;rw[jg.out];unfold cz;rw[if_neg hq]
           rw[if_neg hq]at yc;clear jg hq;go_wp2_with fail;refine am yc ?_;rintro e we ⟨rfl,he⟩;have HE:=qH<|he;clear he yc;go_wp2_with fail;refine am (zK rb B s _ Gq f3 (sk s i7:Int) ((af:Int)+1) (st.L.length:Int) w0 we HE (by omega) hs) ?_;rintro e wg ⟨rfl,hg⟩;have ye:Hid (Cw 53 #[Pq rb,.int .u8 93] wg fun e w'=>e=Rw (.tuple #[])/\RW w0 w' rb B s (mI s (sk s (ao s i7 91)) 93 (sk s i7:Int)) Gq f3 (sk s i7:Int) ((af:Int)+1)):=by have:=fg 93 (by omega) hg hs;rw[kR]at this;exact this
           clear hg HE;go_wp2_with fail;refine am ye ?_;rintro e wh ⟨rfl,hh⟩;have HH:=qH<|hh;clear hh ye;go_wp2_with fail;go_meet;exact gh.err HR2 ⟨_,_,_,HH⟩
        ·have jg:Hid (R=match ee s i7 with
          |.error b=>.error b
          |.ok (i2,t)=>.ok ⟨i2,aB Gq st.L.length t,f3⟩):=Nw.out;have QC:=Hf H1 hs;cases hp:ee s i7 with
         |error b=>
          have HR3:Hid (R=.error b):=by show _=_;rw[jg.out,hp]
          rw[hp]at QC;have QH:Hid (Cw 54 #[Pq rb] wd fun e w'=>e=Rw (.string ByteArray.empty)/\∃p,RW w0 w' rb B s p Gq f3 (b:Int) ((af:Int)+1)):=QC;clear hp jg QC;go_wp2_with fail;refine am QH ?_;rintro e we ⟨rfl,i',he⟩;obtain⟨gb,al,c2,⟨u2,d2⟩,z2,kG,fQ,hst⟩:=he.text (k:=st.L.length) (by rw[Ie];omega);rw[Ie]at c2 kG;have HST:Hid (RW w0 (we.setCell (az gb (st.L.length*5+2)) (.string ByteArray.empty)) rb B s i' (aB Gq st.L.length []) f3 (b:Int) ((af:Int)+1)):=hst [];clear he hst QH;have hlt:(st.L.length:Int)<((st.L.length+1:Nat):Int):=by omega
          have qD:(st.L.length:Int)<(st.L.length:Int)+1:=by omega
          go_wp2_with fail;go_meet;exact gh.err HR3 ⟨_,_,_,HST⟩
         |ok q=>
          obtain⟨i2,tt⟩:=q;have HR3:Hid (R=.ok ⟨i2,aB Gq st.L.length tt,f3⟩):=by show _=_;rw[jg.out,hp]
          have Kh:=EX hi7 hp;rw[hp]at QC;have QH:Hid (Cw 54 #[Pq rb] wd fun e w'=>e=Rw (.string ⟨tt.toArray⟩)/\RW w0 w' rb B s i2 Gq f3 (-1) ((af:Int)+1)):=QC;clear hp jg QC;go_wp2_with fail;refine am QH ?_;rintro e we ⟨rfl,he⟩;obtain⟨gb,al,c2,⟨u2,d2⟩,z2,kG,fQ,hst⟩:=he.text (k:=st.L.length) (by rw[Ie];omega);rw[Ie]at c2 kG;have HST:=qH<|hst tt;clear he hst QH;have hlt:(st.L.length:Int)<((st.L.length+1:Nat):Int):=by omega
          have qD:(st.L.length:Int)<(st.L.length:Int)+1:=by omega
          go_wp2_with fail;go_meet;have hfin:gh w0 (we.setCell (az gb (st.L.length*5+2)) (.string ⟨tt.toArray⟩)) rb B s ((af:Int)+1) st R:=by rw[HR3.out];exact⟨HST,by show st.i<i2;omega,by show st.L.length<=(aB Gq st.L.length tt).length;rw[j0,Ie];omega⟩
          exact hfin
        ·have jg:Hid (R=.ok ⟨i7,Gq,f3⟩):=Nw.out;have hfin:gh w0 wd rb B s ((af:Int)+1) st R:=by rw[jg.out];exact⟨H1,by show st.i<i7;omega,by show st.L.length<=_;rw[Ie];omega⟩
         have HFN:=qH<|hfin;clear hfin;go_wp2_with fail;go_meet;exact HFN
      case rest=>
       have HO:=hcut;clear hcut;have HC:Hid (∃bad,(∃i L g,RW w0 wc rb B s i L g bad ((af:Int)+1))):=by
        have ho:=HO.out;cases R with
        |error b=>obtain⟨i,L,g,h⟩:=ho;exact⟨b,i,L,g,h⟩
        |ok ct=>exact⟨-1,_,_,_,ho.1⟩
       obtain⟨bz,iz,Lz,gz,hz⟩:=HC.out;obtain⟨nvz,AVz,KVz,erz,atz,rz,flz,dz⟩:=hz.mem;have c6:=rz.c6;have z6:=rz.fz 6;have gT:Hid (gh w0 (wc.setCell (az rb 6) (Iq (af:Int))) rb B s (af:Int) st R):=by
        have ho:=HO.out;cases R with
        |error b=>obtain⟨i,L,g,h⟩:=ho;exact⟨i,L,g,h.setD _⟩
        |ok ct=>exact⟨ho.1.setD _,ho.2⟩
       have e1:(af:Int)+1-1=(af:Int):=by omega
       clear rz flz dz hz HC HO;go_wp2;go_end0;exact⟨rfl,gT⟩
