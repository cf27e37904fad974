import Derived.Test.YtmbefonnkkhfgaaGreatDoorQ00
import Derived.Test.YtmbefonnkkhfgaaGreatDoorQ28
import Derived.Maps.AppendAt
import Derived.Deep.CutBlock
set_option linter.unusedVariables false
set_option maxRecDepth 100000
set_option maxHeartbeats 16000000
namespace Go.Proofs.YtmbefonnkkhfgaaGreatDoor
section
open Go.RowKit Go.Proofs.Tryz
section
variable{W W':World} {rb i:Nat} {s:ByteArray} {lv:Value} {bad er at_ dep:Int}
theorem RS.setL(h:RS W rb s i lv bad er at_ dep)(v:Value):RS (W.setCell ⟨rb,2,none⟩ v) rb s i v bad er at_ dep:=
 ⟨by simpa using h.lt,rs_other (by omega) h.c0,rs_other (by omega) h.c1,rs_same h.c2,rs_other (by omega) h.c3,rs_other (by omega) h.c4,rs_other (by omega) h.c5,rs_other (by omega) h.c6,fun j=>by rw[World.frozen?_setCell];exact h.fz j⟩
theorem RS.setD(h:RS W rb s i lv bad er at_ dep)(d:Int):RS (W.setCell ⟨rb,6,none⟩ (Iq d)) rb s i lv bad er at_ d:=
 ⟨by simpa using h.lt,rs_other (by omega) h.c0,rs_other (by omega) h.c1,rs_other (by omega) h.c2,rs_other (by omega) h.c3,rs_other (by omega) h.c4,rs_other (by omega) h.c5,rs_same h.c6,fun j=>by rw[World.frozen?_setCell];exact h.fz j⟩
theorem RS.far{o:Option Nat}{B:Nat}(h:RS W rb s i lv bad er at_ dep)(hg:W.grownBy W' o)(ho:∀g,o=some g->B≤g)(hr:rb<B):RS W' rb s i lv bad er at_ dep:=by have hb:=hg.block rb h.lt (fun e=>by have:=ho rb e.symm;omega);have k:∀j,W'.cell? ⟨rb,j,none⟩=W.cell? ⟨rb,j,none⟩:=fun j=>World.cell?_of_block hb;exact⟨Nat.lt_of_lt_of_le h.lt hg.size,(k 0).trans h.c0,(k 1).trans h.c1,(k 2).trans h.c2,(k 3).trans h.c3,(k 4).trans h.c4,(k 5).trans h.c5,(k 6).trans h.c6,fun j=>(World.frozen?_of_block hb).trans (h.fz j)⟩
end
structure NM(W0 W:World)(rb B:Nat)(s:ByteArray)(i j:Nat)(L:List Nd)(f:Flt)(dep:Int):Prop where
 rbB:rb<B
 le:B≤W.heap.size
 fr:Fr B rb W0 W
 mem:∃nv AV KV er at_,RS W rb s i nv (-1) er at_ dep∧FL er at_ f j∧RD W B nv L AV KV
theorem nm_wrong{W0 W:World}{rb B i j:Nat}{s:ByteArray}{L:List Nd}{f:Flt}{dep:Int}(h:NM W0 W rb B s i j L f dep)(c p:Nat)(hp:j≤p):
 Calls prog 45 #[Pq rb,Iq (c:Int),Iq (p:Int)] W fun r w'=>r=.returned (.tuple #[])∧NM W0 w' rb B s i p L (addF f c p) dep:=by obtain⟨nv,AV,KV,er,at_,h1,h2,h3⟩:=h.mem;refine(wrong_any rb s i nv (-1) er at_ dep c p W h1).mono ?_;rintro e w' ⟨rfl,r,g⟩;exact⟨rfl,h.rbB,Nat.le_trans h.le g.size,h.fr.trans (Fr.grown g h.le),nv,AV,KV,_,_,r,h2.add c p hp,h3.up (Up.grown g h.rbB)⟩
theorem NM.slice{W0 W:World}{rb B i j:Nat}{s:ByteArray}{L:List Nd}{f:Flt}{dep:Int}(h:NM W0 W rb B s i j L f dep):∃p c AV KV er at_,RS W rb s i (.slice p L.length c) (-1) er at_ dep∧FL er at_ f j∧RD W B (.slice p L.length c) L AV KV:=by obtain⟨nv,AV,KV,er,at_,h1,h2,h3⟩:=h.mem;obtain⟨p,c,rfl⟩:∃p c,nv=.slice p L.length c:=own_slice h3.nr.row.choose_spec;exact⟨p,c,AV,KV,er,at_,h1,h2,h3⟩
theorem infoRN:(prog.info? 104).map (fun i=>(i.zero,i.size,i.bytes))=some (some (.agg #[Iq 0,.slice none 0 0,.string ⟨#[]⟩,.slice none 0 0,Iq 0]),5,80):=by kernel_rfl
theorem one_nd(d:Nd)(ab:Nat):∀u∈ndCells d (avV ab) (.slice none 0 0),u.oneCell'=true:=by intro u hu;unfold ndCells avV at hu;simp at hu;rcases hu with rfl|rfl|rfl|rfl|rfl<;>rfl
theorem attrsF_ge{s:ByteArray}{kind:Nat}{L:List Nd}:∀(f i:Nat) (er:Flt) (a:List Int) (seen:List Nat) (i2:Nat) (er2:Flt) (a2:List Int),attrsF s kind L f i er a seen=.ok (i2,er2,a2)->i≤i2
 |0,i,er,a,seen,i2,er2,a2,e=>by cases e
 |f+1,i,er,a,seen,i2,er2,a2,e=>by
  have pl:=step1_places s i (-1);have h1:=attr1_step s kind L i er a seen (-1) (by omega);obtain⟨q,hq⟩:=nmd (fa kind L er a seen (step1 s i (-1)));rw[hq]at h1;obtain⟨f3,a3,s3⟩:=q;rcases h1 with⟨_,h1⟩|⟨_,h1⟩
  ·by_cases hm:isAt s (step1 s i (-1)).i 59=true;·rw[attrsF_more h1 hm]at e;have:=attrsF_ge f _ _ _ _ _ _ _ e;have:=gotI_ge s (step1 s i (-1)).i 59;omega
   ·rw[attrsF_last h1 hm]at e;unfold closeR mustR at e;split at e;·cases e
    ·rename_i h5;split at h5;·injection h5 with h5;injection e with e;injection e with e _;have:=gotI_ge s (step1 s i (-1)).i 125;omega
     ·cases h5
  ·rw[attrsF_err h1]at e;cases e
theorem attrsR_ge{s:ByteArray}{kind:Nat}{L:List Nd}{i:Nat}{er:Flt}{i2:Nat}{er2:Flt}{a2:List Int}(e:attrsR s kind L i er=.ok (i2,er2,a2)):i≤i2:=by
 unfold attrsR at e;split at e;·have:=attrsF_ge _ _ _ _ _ _ _ _ e;have:=gotI_ge s i 123;omega
 ·injection e with e;injection e with e _;have:=sk_ge s i;omega
theorem grown_kl(L:List Nd)(d:Nd)(hd:d.kids=[])(h:∀j,(nth L j).kids.length≤L.length)(hup:d.up=-1∨(0≤d.up∧d.up<L.length))(j:Nat):(nth (grown L d) j).kids.length≤(grown L d).length:=by
 rw[grown_len];have hj:∀j,(nth (L++[d]) j).kids.length≤L.length:=fun j=>by
  by_cases h1:j<L.length;·rw[nth_app_old h1];exact h j
  ·by_cases h2:j=L.length;·rw[h2,nth_app_new,hd];exact Nat.zero_le _
   ·unfold nth;rw[List.getElem?_eq_none (by simp;omega)];exact Nat.zero_le _
 rcases hup with hu|⟨h0,h1⟩
 ·have e:grown L d=L++[d]:=by unfold grown;rw[if_pos (by rw[hu];decide)]
  rw[e];exact Nat.le_succ_of_le (hj j)
 ·rw[grown_eq L d d.up.toNat (by omega) (by omega)];by_cases e:j=d.up.toNat;·rw[e,nth_mod_same _ (by simp;omega),List.length_append];have:=hj d.up.toNat;simp;omega
  ·rw[nth_mod_other _ e];exact Nat.le_succ_of_le (hj j)
theorem rd_kid{w0 wc w3:World}{rb B g n1 c' j c:Nat}{s:ByteArray}{i:Nat}{v':Value}{bad er at_ dep:Int}{L1:List Nd}{AV1:Nat->Nat}{KV1:Nat->Value}{pk:Option Addr}{ck:Nat}{ks:List Nat}
 (hp:RS w3 rb s i (Sq g n1 c') bad er at_ dep) (hn:RD wc B (Sq g n1 c') L1 AV1 KV1) (hl:L1.length=n1) (hf:Fr B rb w0 wc) (hB:B≤wc.heap.size) (hrb:rb<B) (hBg:B≤g) (hj:j<n1)
 (hk:KV1 j=.slice pk ks.length ck) (hks:(nth L1 j).kids=ks) (o:Obj) (ho:w3.ownsRow B 3 1 v' (ks.length+1) (kInts ks++[Iq (c:Int)])) (hg:((wc.alloc o).drew).grownBy w3 (Value.slice pk ks.length ck).ownBlock)
 (hat:v'.ownBlock=(Value.slice pk ks.length ck).ownBlock∨v'.ownBlock=some ((wc.alloc o).drew).heap.size):
 ∃KV2,RS (w3.setCell ⟨g,j*5+3,none⟩ v') rb s i (Sq g n1 c') bad er at_ dep∧RD (w3.setCell ⟨g,j*5+3,none⟩ v') B (Sq g n1 c') (L1.modify j fun u=>{u with kids:=u.kids++[c]}) AV1 KV2∧Fr B rb w0 (w3.setCell ⟨g,j*5+3,none⟩ v')∧B≤(w3.setCell ⟨g,j*5+3,none⟩ v').heap.size:=by subst hl;have hkr:=hn.nr.kids j hj;rw[hk]at hkr;have hB1:Below wc.heap.size wc (wc.alloc o).drew:=below_drewN' ((Below.refl wc.heap.size wc).alloc (Nat.le_refl _) o) 1;have HN4:=hn.up (Up.below (B:=B) hB1);have HN5:=HN4.kid (k:=j) (c:=c) (W':=w3) (kv':=v') hj (by rw[hks];simpa[kInts]using ho) (by rw[hk];exact hg) (by rw[hk];exact hat);have HF3:Fr B rb wc w3:=(Fr.below hB1 hB).trans (Fr.own hg (Nat.le_trans hB hB1.size) (fun g e=>(hkr.lt g e).1));have HF4:Fr B rb w3 (w3.setCell ⟨g,j*5+3,none⟩ v'):=Fr.own (gr_set w3 g _ _) (Nat.le_trans hB HF3.size) (fun q e=>by injection e with e;omega);exact⟨_,RS.far hp (gr_set w3 g _ _) (fun q e=>by injection e with e;omega) hrb,HN5,hf.trans (HF3.trans HF4),by have:=HF3.size;have:=HF4.size;omega⟩
theorem NOut.err{W0 W':World}{rb B:Nat}{s:ByteArray}{dep:Int}{st:PS}{r:Except Nat PS}{b:Nat}(hr:r=.error b)(h:∃i L g,RW W0 W' rb B s i L g (b:Int) dep):NOut W0 W' rb B s dep st r:=by rw[hr];exact h
theorem NOut.mono{W0 W':World}{rb B:Nat}{s:ByteArray}{dep:Int}{st st1:PS}{r:Except Nat PS}(h:NOut W0 W' rb B s dep st1 r)(hi:st.i≤st1.i)(hl:st.L.length≤st1.L.length):NOut W0 W' rb B s dep st r:=by
 cases r with
 |error b=>exact h
 |ok st'=>exact⟨h.1,Nat.lt_of_le_of_lt hi h.2.1,Nat.le_trans hl h.2.2⟩
def fltOf(r:Except Nat (Nat×Flt×List Int)):Flt:=match r with
 |.error _=>none
 |.ok (_,f,_)=>f
theorem RW.setD{W0 W:World}{rb B i:Nat}{s:ByteArray}{L:List Nd}{f:Flt}{bad dep:Int}(h:RW W0 W rb B s i L f bad dep)(d:Int):RW W0 (W.setCell ⟨rb,6,none⟩ (Iq d)) rb B s i L f bad d:=by obtain⟨nv,AV,KV,er,at_,h1,h2,h3⟩:=h.mem;exact⟨h.il,h.ll,h.kl,h.rbB,by simpa[World.setCell]using h.le,h.fr.trans (Fr.set _ _),nv,AV,KV,er,at_,h1.setD d,h2,h3.up (Up.set _ h.rbB _)⟩
theorem node_step(rb B:Nat)(s:ByteArray)(f:Nat)(hN:NodeR rb B s f)(hs:s.size≤1073741824):NodeR rb B s (f+1):=by
 intro up depth st w0 w h hup hd hf;have SK:=qH<|rw_skip h hs;have HN:=qH<|hN;have hil:=h.il;have hll:=h.ll (by omega);have HKL:=qH<|h.kl;obtain⟨a0,ha0⟩:=nmd (sk s st.i);have h0a:st.i≤a0:=by rw[<-ha0];exact sk_ge _ _
 have hal:a0≤s.size:=by rw[<-ha0];exact sk_le s _ hil
 have hska:sk s a0=a0:=by rw[<-ha0,sk_sk]
 obtain⟨R,hR⟩:=nmd (nodeF s (f+1) up depth st);have HR:Hid (R=if run letter s a0=a0∨findF kindsL (s.extract a0 (run letter s a0)) 0<0 then .error a0 else match attrsR s (findF kindsL (s.extract a0 (run letter s a0)) 0).toNat st.L (run letter s a0) (addIf (decide (12≤depth)) (addIf (decide (100≤st.L.length)) st.er 3 a0) 4 a0)with
  |.error b=>.error b
  |.ok (i2,er2,a)=>bodyR s (findF kindsL (s.extract a0 (run letter s a0)) 0).toNat st.L.length (nodeF s f st.L.length (depth+1)) {i:=i2,L:=grown st.L ⟨(findF kindsL (s.extract a0 (run letter s a0)) 0).toNat,a,[],[],up⟩,er:=er2}):=by show _=_;rw[<-hR,nodeF];simp only[ha0];rfl
 have hwi:=wI_le (s:=s) (i:=a0) (-1) hal;rw[ha0]at SK;rw[hR];clear h hN ha0 hR;go_enter func20,ntmps20;go_wp2_with fail;refine Calls.mono SK ?_;rintro e w1 ⟨rfl,h1⟩;obtain⟨nv,AV,KV,er,at_,r1,f1,d1⟩:=h1.mem;have c1:=r1.c1;have H1:Hid (rb<B∧B≤w1.heap.size∧Fr B rb w0 w1∧FL er at_ st.er a0∧RD w1 B nv st.L AV KV):=⟨h1.rbB,h1.le,h1.fr,f1 (by omega),d1⟩;have WO:Hid (Calls prog 42 #[Pq rb] w1 fun e w'=>e=.returned (.string (s.extract a0 (run letter s a0)))∧RS w' rb s (run letter s a0) nv (if run letter s a0=a0 then(a0:Int)else-1) er at_ (depth:Int)∧w1.grownBy w' (some rb)):=by
  have:=word_all rb s a0 nv (-1) er at_ (depth:Int) w1 r1 (by omega) hal;have e1:wS s a0 (-1)=s.extract a0 (run letter s a0):=by unfold wS;rw[if_pos (by omega),hska]
  have e2:wI s a0 (-1)=run letter s a0:=by unfold wI;rw[if_pos (by omega),hska]
  have e3:wB s a0 (-1)=if run letter s a0=a0 then(a0:Int)else-1:=by unfold wB;rw[if_pos (by omega)];unfold wordB;rw[hska]
  rw[e1,e2,e3]at this;exact this
 have hkl:run letter s a0≤s.size:=run_le _ _ _ hal;have hkg:=run_ge letter s a0;clear r1 f1 d1 h1 SK hwi hska;obtain⟨k,hk⟩:=nmd (run letter s a0);have HKK:=qH<|hk;rw[hk]at HR WO hkl hkg;clear hk;go_wp2_with fail;clear c1;refine Calls.mono WO ?_;rintro e w2 ⟨rfl,r2,g2⟩;have H2:Hid (RS w2 rb s k nv (if k=a0 then(a0:Int)else-1) er at_ (depth:Int)∧rb<B∧B≤w2.heap.size∧Fr B rb w0 w2∧FL er at_ st.er a0∧RD w2 B nv st.L AV KV):=⟨r2,H1.1,Nat.le_trans H1.2.1 g2.size,H1.2.2.1.trans (Fr.grown g2 H1.2.1),H1.2.2.2.1,H1.2.2.2.2.up (Up.grown g2 H1.1)⟩;clear r2 g2 WO H1;go_wp2_with fail;refine Calls.mono (kinds_any w2) ?_;rintro e w3 ⟨rfl,hn3,hl3,b3⟩;have H3:Hid (RS w3 rb s k nv (if k=a0 then(a0:Int)else-1) er at_ (depth:Int)∧rb<B∧B≤w3.heap.size∧Fr B rb w0 w3∧FL er at_ st.er a0∧RD w3 B nv st.L AV KV):=⟨H2.1.below b3,H2.2.1,Nat.le_trans H2.2.2.1 b3.size,H2.2.2.2.1.trans (Fr.below b3 H2.2.2.1),H2.2.2.2.2.1,H2.2.2.2.2.2.up (Up.below b3)⟩;have FI:=qH<|find_any kindsL (s.extract a0 k) w2.heap.size 0 7 7 w3 hl3 hn3 rfl (by omega);have hfb:=findF_bd (s.extract a0 k) kindsL 0;have hfl:kindsL.length=7:=rfl;have HEM:Hid (k=a0->findF kindsL (s.extract a0 k) 0=-1):=fun e=>by rw[e,ext_self];exact find_empty
 obtain⟨kd,hkd⟩:=nmd (findF kindsL (s.extract a0 k) 0);rw[hkd]at HR FI hfb HEM;generalize s.extract a0 k=tx at FI⊢;clear hkd hn3 hl3 b3 H2;go_wp2_with fail;refine Calls.mono FI ?_;rintro e w4 ⟨rfl,hw4⟩;obtain rfl:=hw4.symm;clear FI;by_cases hneg:kd<0
 ·have hkd1:kd=-1:=by omega
  subst hkd1;have HRE:Hid (R=.error a0):=by show _=_;rw[HR.out,if_pos (.inr (by omega))]
  have FA:Hid (Calls prog 22 #[Pq rb,Iq (a0:Int)] w3 fun e w'=>e=.returned (.tuple #[])∧RS w' rb s k nv (a0:Int) er at_ (depth:Int)∧w3.grownBy w' (some rb)):=by
   have:=fail_any rb s k nv (if k=a0 then(a0:Int)else-1) er at_ (depth:Int) (a0:Int) w3 H3.1;have e:badI (if k=a0 then(a0:Int)else-1) (a0:Int)=a0:=by
    unfold badI;by_cases e:k=a0;·rw[if_pos e];split<;>rfl
    ·rw[if_neg e,if_pos (by omega)]
   rw[e]at this;exact this
  clear HR hneg;go_wp2_with fail;refine Calls.mono FA ?_;rintro e w5 ⟨rfl,r5,g5⟩;have H5:Hid (RW w0 w5 rb B s k st.L st.er (a0:Int) (depth:Int)):=⟨hkl,fun e=>by omega,HKL,H3.2.1,Nat.le_trans H3.2.2.1 g5.size,H3.2.2.2.1.trans (Fr.grown g5 H3.2.2.1),nv,AV,KV,er,at_,r5,fun e=>by omega,H3.2.2.2.2.2.up (Up.grown g5 H3.2.1)⟩;have c3:=r5.c3;have hge:decide ((0:Int)≤(a0:Int))=true:=decide_eq_true (by omega);clear r5 g5 FA;go_wp2;refine bodyPost_ret (results_none rfl _ _ _) rfl ?_;refine⟨rfl,?_⟩;show NOut _ _ _ _ _ _ _ _;rw[HRE.out];exact⟨_,_,_,H5⟩
 ·obtain⟨kn,rfl⟩:∃z:Nat,kd=z:=⟨kd.toNat,by omega⟩;have hk7:kn<7:=by omega
  have hka:k≠a0:=fun e=>by have:=HEM e;omega
  have HRE:Hid (R=match attrsR s kn st.L k (addIf (decide (12≤depth)) (addIf (decide (100≤st.L.length)) st.er 3 a0) 4 a0)with
   |.error b=>.error b
   |.ok (i2,er2,a)=>bodyR s kn st.L.length (nodeF s f st.L.length (depth+1)) {i:=i2,L:=grown st.L ⟨kn,a,[],[],up⟩,er:=er2}):=by show _=_;rw[HR.out,if_neg (by rintro(e|e);exact hka e;omega)];rfl
  have hd0:decide ((kn:Int)<0)=false:=decide_eq_false (by omega);have M3:Hid (NM w0 w3 rb B s k a0 st.L st.er (depth:Int)):=by have hh:=H3.out;rw[if_neg hka]at hh;exact⟨hh.2.1,hh.2.2.1,hh.2.2.2.1,nv,AV,KV,er,at_,hh.1,hh.2.2.2.2.1,hh.2.2.2.2.2⟩
  clear HR hneg H3 HEM hfb hfl;obtain⟨pn,cn,AV3,KV3,er3,at3,r3,f3,d3⟩:=M3.slice;have c2:=r3.c2;have c3:=r3.c3;clear r3 f3 d3;go_upto_if 36 with fail;clear c2 c3;go_cut[36,39]from 37 to 38 (fun _ _ wx=>Hid (NM w0 wx rb B s k a0 st.L (addIf (decide (100≤st.L.length)) st.er 3 a0) (depth:Int)));case first=>
   by_cases hc:100≤st.L.length
   ·have hde:decide ((100:Int)≤(st.L.length:Int))=true:=decide_eq_true (by omega);have hdn:=decide_eq_true hc;have WR:Hid (Calls prog 45 #[Pq rb,Iq 3,Iq (a0:Int)] w3 fun r w'=>r=.returned (.tuple #[])∧NM w0 w' rb B s k a0 st.L (addIf (decide (100≤st.L.length)) st.er 3 a0) (depth:Int)):=by rw[hdn];exact nm_wrong M3 3 a0 (Nat.le_refl _)
    clear hdn;go_wp2_with fail;refine Calls.mono WR ?_;rintro e wn ⟨rfl,hn⟩;have MN:=qH<|hn;clear hn WR;go_wp2_with fail;go_meet;exact MN
   ·have hde:decide ((100:Int)≤(st.L.length:Int))=false:=decide_eq_false (by omega);have hdn:=decide_eq_false hc;have MN:Hid (NM w0 w3 rb B s k a0 st.L (addIf (decide (100≤st.L.length)) st.er 3 a0) (depth:Int)):=by rw[hdn];exact M3
    clear hdn;go_wp2_with fail;go_meet;exact MN
  case rest=>
   obtain⟨f1,hf1⟩:=nmd (addIf (decide (100≤st.L.length)) st.er 3 a0);rw[hf1]at hcut HRE;have M5:=hcut;clear hf1 hcut M3;obtain⟨pn5,cn5,AV5,KV5,er5,at5,r5,f5,d5⟩:=M5.slice;have c6:=r5.c6;clear r5 f5 d5;go_upto_if 44 with fail;clear c6;go_cut[44,47]from 45 to 46 (fun _ _ wx=>Hid (NM w0 wx rb B s k a0 st.L (addIf (decide (12≤depth)) f1 4 a0) (depth:Int)));case first=>
    by_cases hc:12≤depth
    ·have hde:decide ((12:Int)≤(depth:Int))=true:=decide_eq_true (by omega);have hdn:=decide_eq_true hc;have WR:Hid (Calls prog 45 #[Pq rb,Iq 4,Iq (a0:Int)] wc fun r w'=>r=.returned (.tuple #[])∧NM w0 w' rb B s k a0 st.L (addIf (decide (12≤depth)) f1 4 a0) (depth:Int)):=by rw[hdn];exact nm_wrong M5 4 a0 (Nat.le_refl _)
     clear hdn;go_wp2_with fail;refine Calls.mono WR ?_;rintro e wn ⟨rfl,hn⟩;have MN:=qH<|hn;clear hn WR;go_wp2_with fail;go_meet;exact MN
    ·have hde:decide ((12:Int)≤(depth:Int))=false:=decide_eq_false (by omega);have hdn:=decide_eq_false hc;have MN:Hid (NM w0 wc rb B s k a0 st.L (addIf (decide (12≤depth)) f1 4 a0) (depth:Int)):=by rw[hdn];exact M5
     clear hdn;go_wp2_with fail;go_meet;exact MN
   case rest=>
    obtain⟨f2,hf2⟩:=nmd (addIf (decide (12≤depth)) f1 4 a0);rw[hf2]at hcut HRE;have M6:=hcut;clear hf2 hcut M5;obtain⟨p6,q6,AV6,KV6,er6,at6,r6,fl6,d6⟩:=M6.slice;have c2:=r6.c2;have AT:=qH<|attrs_any rb s k (.slice p6 st.L.length q6) (-1) er6 at6 (depth:Int) kn st.L f2 wc r6 (fl6.on hkg) (d6.ids M6.rbB) hs hkl (by omega) hk7 (by omega);have D6:=qH<|d6;clear r6 fl6 d6;go_wp2_with fail;clear c2;refine Calls.mono AT ?_;rintro e w7 ⟨ab,a,i7,bad7,er7,at7,rfl,hab,hla,hra,g7,r7,hi7,hm7⟩;have D7:=qH<|D6.up (Up.grown g7 M6.rbB);have R7:=qH<|r7;have A7:=qH<|hra;have HBB:Hid (rb<B∧B≤w7.heap.size∧Fr B rb w0 w7∧B≤ab):=⟨M6.rbB,Nat.le_trans M6.le g7.size,M6.fr.trans (Fr.grown g7 M6.le),Nat.le_trans M6.le hab⟩;have HSK:Hid ((∀j,j<st.L.length->(KV6 j).ownBlock≠some ab)∧(Value.slice p6 st.L.length q6).ownBlock≠some ab):=by obtain⟨xs,hx⟩:=D6.nr.row;exact⟨fun j hj e=>by have:=((D6.nr.kids j hj).lt ab e).2;omega,fun e=>by have:=(hx.lt ab e).2;omega⟩
    have HM7:Hid (match attrsR s kn st.L k f2 with
     |.error b=>bad7=(b:Int)
     |.ok (i2,f3,a2)=>bad7=-1∧i7=i2∧a=a2∧FL er7 at7 f3 i2):=hm7;clear hab hra g7 r7 hm7 AT M6 D6;obtain⟨i0,hi0,hz0,hz1,hz2⟩:=info_parts infoRN;obtain⟨xs,hxs⟩:=D7.nr.row;have HX:=qH<|hxs;clear hxs;have c2:=R7.c2;go_upto_region 13 with fail;go_cut[8]from 56 to 68 (fun v wx=>v=Sq ab 12 12∧∃p1 q1,Hid (RS wx rb s i7 (.slice p1 (st.L.length+1) q1) bad7 er7 at7 (depth:Int)∧RD wx B (.slice p1 (st.L.length+1) q1) (st.L++[⟨kn,a,[],[],up⟩]) (fun j=>if j=st.L.length then ab else AV6 j) (fun j=>if j=st.L.length then .slice none 0 0 else KV6 j)∧Fr B rb w0 wx∧B≤wx.heap.size));case first=>
     go_wp2_with(at_builtin;refine wpList_append_own_at _ rfl _ _ 41 rfl B 104 i0 _ 5 80 underlying41 hi0 hz0 hz1 hz2 rfl (by decide) _ _ _ rfl (HX.alloc _) _ 1 1 (ndCells ⟨kn,a,[],[],up⟩ (avV ab) (.slice none 0 0)) rfl rfl (cells_new _ _ _ _ rfl) (one_nd _ _) (by unfold maxLen;omega) (by omega) (by rw[World.size_alloc];have:=HBB.2.1;omega) ?_);intro v1 w8 o8 g8 _ hat8;obtain⟨p1,q1,hv1⟩:=own_slice o8;subst hv1;have bA:=(Below.refl w7.heap.size w7).alloc (Nat.le_refl _) (.cells #[Iq (kn:Int),Sq ab 12 12,.string ⟨#[]⟩,.slice none 0 0,Iq up] 104);have hat9:(Value.slice p1 (st.L.length+1) q1).ownBlock=(Value.slice p6 st.L.length q6).ownBlock∨(Value.slice p1 (st.L.length+1) q1).ownBlock=some (w7.alloc (.cells #[Iq (kn:Int),Sq ab 12 12,.string ⟨#[]⟩,.slice none 0 0,Iq up] 104)).heap.size:=by rw[World.size_alloc];exact hat8
     have R8:=qH<|RS.far (R7.below bA) g8 (fun g e=>(HX.lt g e).1) HBB.1;have D8:=qH<|RD.app (D7.up (Up.below bA)) (HX.alloc _) o8 g8 hat9 hla rfl HBB.2.2.2 (A7.below bA) HSK.1 HSK.2;have F8:Hid (Fr B rb w0 w8∧B≤w8.heap.size):=by have hz:=bA.size;have hz2:=HBB.2.1;exact⟨HBB.2.2.1.trans ((Fr.below bA hz2).trans (Fr.own g8 (by omega) (fun g e=>(HX.lt g e).1))),by have:=g8.size;omega⟩
     have k2:=R8.c2;have kf:=R8.fz 2;obtain⟨w9,hw9⟩:=nmd (w8.setCell ⟨rb,2,none⟩ (.slice p1 (st.L.length+1) q1));have HQ:Hid (RS w9 rb s i7 (.slice p1 (st.L.length+1) q1) bad7 er7 at7 (depth:Int)∧RD w9 B (.slice p1 (st.L.length+1) q1) (st.L++[⟨kn,a,[],[],up⟩]) (fun j=>if j=st.L.length then ab else AV6 j) (fun j=>if j=st.L.length then .slice none 0 0 else KV6 j)∧Fr B rb w0 w9∧B≤w9.heap.size):=by rw[<-hw9];exact⟨R8.setL _,D8.up (Up.set _ HBB.1 _),F8.1.trans (Fr.set _ _),by simpa[World.setCell]using F8.2⟩
     clear o8 g8 hat8 hat9 bA;go_wp2_with fail;go_meet;exact⟨rfl,p1,q1,HQ⟩
    case rest=>
     obtain⟨rfl,p1,q1,HM⟩:=hcut;clear HX c2 hi0 hz0 hz1 hz2 D7 R7 A7 HSK;have HMK:Hid (∀wx nv AV KV,RS wx rb s i7 nv bad7 er7 at7 (depth:Int)->RD wx B nv (grown st.L ⟨kn,a,[],[],up⟩) AV KV->Fr B rb w0 wx->B≤wx.heap.size->RW w0 wx rb B s i7 (grown st.L ⟨kn,a,[],[],up⟩) (fltOf (attrsR s kn st.L k f2)) bad7 (depth:Int)):=fun wx nv AV KV h1 h2 h3 h4=>by
      refine⟨hi7,fun hb=>?_,grown_kl _ _ rfl HKL hup,HBB.1,h4,h3,nv,AV,KV,er7,at7,h1,fun hb=>?_,h2⟩;·have hm:=HM7.out;rw[grown_len];cases hat:attrsR s kn st.L k f2 with
       |error b=>rw[hat]at hm;have hm':bad7=(b:Int):=hm;omega
       |ok q=>obtain⟨i2,f3,a2⟩:=q;rw[hat]at hm;have:=attrsR_ge hat;have:=hm.2.1;omega
      ·have hm:=HM7.out;cases hat:attrsR s kn st.L k f2 with
       |error b=>rw[hat]at hm;have hm':bad7=(b:Int):=hm;omega
       |ok q=>obtain⟨i2,f3,a2⟩:=q;rw[hat]at hm;have h5:=hm.2.2.2;rw[<-hm.2.1]at h5;exact h5
     go_upto_if 70 with fail;go_cut[70,88]from 71 to 87 (fun _ _ wx=>Hid (RW w0 wx rb B s i7 (grown st.L ⟨kn,a,[],[],up⟩) (fltOf (attrsR s kn st.L k f2)) bad7 (depth:Int)));case first=>
      rcases hup with rfl|⟨hu0,hu1⟩
      ·have HO:Hid (RW w0 wc rb B s i7 (grown st.L ⟨kn,a,[],[],-1⟩) (fltOf (attrsR s kn st.L k f2)) bad7 (depth:Int)):=by
        refine HMK wc (.slice p1 (st.L.length+1) q1) (fun j=>if j=st.L.length then ab else AV6 j) (fun j=>if j=st.L.length then .slice none 0 0 else KV6 j) HM.1 ?_ HM.2.2.1 HM.2.2.2;have e:grown st.L ⟨kn,a,[],[],-1⟩=st.L++[⟨kn,a,[],[],-1⟩]:=by unfold grown;rw[if_pos (by show(-1:Int)<0;decide)]
        rw[e];exact HM.2.1
       go_wp2_with fail;go_meet;exact HO
      ·obtain⟨j,rfl⟩:∃j:Nat,up=(j:Int):=⟨up.toNat,by omega⟩;have hj:j<st.L.length:=by omega
       obtain⟨L1,hL1⟩:=nmd (st.L++[(⟨kn,a,[],[],(j:Int)⟩:Nd)]);have HGE:Hid (grown st.L ⟨kn,a,[],[],(j:Int)⟩=L1.modify j fun u=>{u with kids:=u.kids++[st.L.length]}):=by show _=_;rw[<-hL1];exact grown_eq st.L _ j rfl hj
       have hl1:L1.length=st.L.length+1:=by rw[<-hL1];simp
       have hkj:(nth L1 j).kids.length≤1073741824:=by rw[<-hL1,nth_app_old hj];have:=HKL j;omega
       obtain⟨KV1,hKV1⟩:=nmd (fun(q:Nat)=>if q=st.L.length then Value.slice none 0 0 else KV6 q);obtain⟨AV1,hAV1⟩:=nmd (fun(q:Nat)=>if q=st.L.length then ab else AV6 q);obtain⟨r8,d8,f8,b8⟩:=HM.out;rw[hL1,hKV1,hAV1]at d8;clear hKV1 hAV1 hL1;obtain⟨g,cap,hv,hBg,hgl,_,_⟩:=d8.nr.form (by omega);simp only[hl1,Value.slice.injEq,true_and]at hv;obtain⟨rfl,rfl⟩:=hv;have hjl:j<L1.length:=by omega
       have hkr:=d8.nr.kids j hjl;obtain⟨pk,ck,hk'⟩:=own_slice hkr;obtain⟨ks,hks⟩:=nmd ((nth L1 j).kids);rw[hk',hks]at hkr;rw[hks]at hk' hkj;have HKR:=qH<|hkr;have e14:wc.cell? ⟨g,j*5+3,none⟩=some (.slice pk ks.length ck):=by rw[<-hk'];exact d8.nr.cells g rfl j hjl 3 (KV1 j) rfl
       have HGne:Hid (some g≠(Value.slice pk ks.length ck).ownBlock):=by
        obtain⟨ys,hys⟩:=d8.nr.row;rcases own_apart (v':=Sq g (st.L.length+1) q1) hkr hys (by decide)with e|e;·show some g≠_;rw[e];simp
        ·exact fun e2=>e e2.symm
       have hrb:=HBB.1;have hgr:g≠rb:=by omega
       have f14:wc.frozen? ⟨g,j*5+3,none⟩=false:=d8.nr.frz rfl (j*5+3);have c2:=r8.c2;have hj1:(j:Int)<((st.L.length+1:Nat):Int):=by omega
       have hj2:(j:Int)<(st.L.length:Int)+1:=by omega
       have hrl3:=r8.lt;have D8:=qH<|d8;have R8:=qH<|r8;have F8:=qH<|f8;have HHK:=qH<|hk';have HKS:=qH<|hks;have HL1:=qH<|hl1;obtain⟨i1,hi1,hy0,hy1,hy2⟩:=info_parts tinfoInt;clear hkr d8 hk' hks r8 f8 hl1 HM;go_wp2_with fail;go_region_law(refine step_append_at rfl (.tmp 83) (.tmp 85) 59 rfl B 3 i1 (Iq 0) 1 8 underlying59 hi1 hy0 hy1 hy2 rfl (by decide) (.slice pk ks.length ck) ks.length (kInts ks) (by simp[Act.eval]) (World.ownsRow.alloc (w:=wc.drew) HKR _) _ 1 1 [Iq (st.L.length:Int)] (by simp[Act.eval]) rfl (cells_new _ _ _ _ rfl) (by intro u hu;simp at hu;subst hu;rfl) (by unfold maxLen;omega) (by omega) (by simp;omega) ?_;intro v' w3 hown' hg hat;obtain⟨p'',c'',hv'⟩:=own_slice hown';subst hv';have HP3:=qH<|RS.far ((R8.drewN 1).below ((Below.refl _ _).alloc (Nat.le_refl _) _)) hg (fun g e=>(HKR.lt g e).1) hrb;have k3:=HP3.c2;have hgb:=(hg.block g (Nat.lt_of_lt_of_le hgl (by simp)) HGne).trans (heap_alloc_old _ _ hgl);have k14:=(World.cell?_of_block hgb).trans e14;have kf14:=(World.frozen?_of_block hgb).trans f14);all_goals
        have HO:Hid (RW w0 (w3.setCell ⟨g,j*5+3,none⟩ (.slice p'' (ks.length+1) c'')) rb B s i7 (grown st.L ⟨kn,a,[],[],(j:Int)⟩) (fltOf (attrsR s kn st.L k f2)) bad7 (depth:Int)):=by obtain⟨KV2,z1,z2,z3,z4⟩:=rd_kid HP3 D8 HL1 F8 b8 hrb hBg (by omega) HHK HKS _ hown' hg hat;refine HMK _ _ AV1 KV2 z1 ?_ z3 z4;rw[HGE.out];exact z2
        clear HP3 hg hat hown' k3 hgb k14 kf14;go_wp2_with fail;go_meet;exact HO
     case rest=>
      have H9:=hcut;clear hcut HM HMK;obtain⟨nv9,AV9,KV9,er9,at9,r9,fl9,d9⟩:=H9.mem;have c6:=r9.c6;have z6:=r9.fz 6;clear r9 fl9 d9;obtain⟨wd,hwd⟩:=nmd (wc.setCell ⟨rb,6,none⟩ (Iq ((depth:Int)+1)));have HD:Hid (RW w0 wd rb B s i7 (grown st.L ⟨kn,a,[],[],up⟩) (fltOf (attrsR s kn st.L k f2)) bad7 ((depth:Int)+1)):=by rw[<-hwd];exact H9.setD _
      have hdb:(depth:Int)≤1073741824:=by omega
      go_upto_block 0 with fail;clear hwd c6 z6 H9;go_cut[9]from 97 to 125 (fun _ wx=>Hid (NOut w0 wx rb B s ((depth:Int)+1) st R));case first=>
       obtain⟨Gq,hG⟩:=nmd (grown st.L ⟨kn,a,[],[],up⟩);have hGl:Gq.length=st.L.length+1:=by rw[<-hG,grown_len]
       rw[hG]at HD;have hcast:(((depth+1:Nat)):Int)=(depth:Int)+1:=by omega
       cases hat:attrsR s kn st.L k f2 with
       |error b=>
        have HRb:Hid (R=.error b):=by show _=_;rw[HRE.out,hat]
        have hb7:bad7=(b:Int):=by have:=HM7.out;rw[hat]at this;exact this
        have HB:Hid (RW w0 wd rb B s i7 Gq none (b:Int) ((depth:Int)+1)):=by have:=HD.out;rw[hat,hb7]at this;exact this
        clear hat HRE HM7 HD;rcases(by omega:kn=0∨kn=1∨kn=2∨kn=3∨kn=4∨kn=5∨kn=6)with rfl|rfl|rfl|rfl|rfl|rfl|rfl;iterate 3 ·go_wp2_with fail;refine Calls.mono (kids_bad rb B s i7 Gq none b ((depth:Int)+1) (st.L.length:Int) w0 wd HB hs) ?_;rintro e we ⟨rfl,i',he⟩;have HE:=qH<|he;clear he;go_wp2_with fail;go_meet;exact NOut.err HRb ⟨_,_,_,HE⟩
        iterate 2
         ·have M91:Hid (Calls prog 48 #[Pq rb,.int .u8 91] wd fun e w'=>e=.returned (.tuple #[])∧RW w0 w' rb B s (mI s i7 91 b) Gq none (b:Int) ((depth:Int)+1)):=by have:=rw_must 91 (by omega) HB hs;rw[mB_bad]at this;exact this
          go_wp2_with fail;refine Calls.mono M91 ?_;rintro e we ⟨rfl,he⟩;have HE:=qH<|he;clear he M91;go_wp2_with fail;refine Calls.mono (node_bad rb B s _ Gq none (b:Int) ((depth:Int)+1) (st.L.length:Int) w0 we HE (by omega) hs) ?_;rintro e wg ⟨rfl,hg⟩;have M93:Hid (Calls prog 48 #[Pq rb,.int .u8 93] wg fun e w'=>e=.returned (.tuple #[])∧RW w0 w' rb B s (mI s (sk s (mI s i7 91 b)) 93 b) Gq none (b:Int) ((depth:Int)+1)):=by have:=rw_must 93 (by omega) hg hs;rw[mB_bad]at this;exact this
          clear hg;go_wp2_with fail;refine Calls.mono M93 ?_;rintro e wh ⟨rfl,hh⟩;have HH:=qH<|hh;clear hh M93;go_wp2_with fail;go_meet;exact NOut.err HRb ⟨_,_,_,HH⟩
        ·go_wp2_with fail;refine Calls.mono (rw_quoted_bad rb B s i7 Gq none b ((depth:Int)+1) w0 wd HB hs) ?_;rintro e we ⟨rfl,i',he⟩;have HE:=qH<|he;obtain⟨gb,cap,c2,⟨u2,d2⟩,z2,hcap,hgr,hst⟩:=he.text (k:=st.L.length) (by rw[hGl];omega);rw[hGl]at c2 hcap;have HST:Hid (RW w0 (we.setCell ⟨gb,st.L.length*5+2,none⟩ (.string ByteArray.empty)) rb B s i' (withText Gq st.L.length []) none (b:Int) ((depth:Int)+1)):=hst [];clear he hst;have hlt:(st.L.length:Int)<((st.L.length+1:Nat):Int):=by omega
         have hlt2:(st.L.length:Int)<(st.L.length:Int)+1:=by omega
         go_wp2_with fail;go_meet;exact NOut.err HRb ⟨_,_,_,HST⟩
        ·go_wp2_with fail;go_meet;exact NOut.err HRb ⟨_,_,_,HB⟩
       |ok q=>
        obtain⟨i2,f3,a2⟩:=q;have hm:=HM7.out;rw[hat]at hm;obtain⟨hb7,hi2,ha2,hfl⟩:=hm;have hge:=attrsR_ge hat;have H1:Hid (RW w0 wd rb B s i7 Gq f3 (-1) ((depth:Int)+1)):=by have:=HD.out;rw[hat,hb7]at this;exact this
        have HRo0:Hid (R=bodyR s kn st.L.length (nodeF s f (st.L.length:Int) (depth+1)) ⟨i7,Gq,f3⟩):=by show _=_;rw[HRE.out,hat,<-hG,hi2,ha2]
        have hd1:depth+1≤i7:=by omega
        have hf1:s.size<f+i7:=by omega
        have hi1:st.i≤i7:=by omega
        have hi1':st.i<i7:=by omega
        clear hat HRE HM7 HD hfl;rcases(by omega:kn=0∨kn=1∨kn=2∨kn=3∨kn=4∨kn=5∨kn=6)with rfl|rfl|rfl|rfl|rfl|rfl|rfl;iterate 3
         ·have HRK:Hid (R=kidsR s (nodeF s f (st.L.length:Int) (depth+1)) ⟨i7,Gq,f3⟩):=HRo0.out;have KC:Hid (Calls prog 47 #[Pq rb,Iq (st.L.length:Int)] wd fun e w'=>e=.returned (.tuple #[])∧NOut w0 w' rb B s ((depth:Int)+1) ⟨i7,Gq,f3⟩ (kidsR s (nodeF s f (st.L.length:Int) (depth+1)) ⟨i7,Gq,f3⟩)):=by have:=kids_of rb B s f HN hs st.L.length (depth+1) ⟨i7,Gq,f3⟩ w0 wd (by rw[hcast];exact H1) (by show st.L.length<_;rw[hGl];omega) hd1 hf1;rw[hcast]at this;exact this
          go_wp2_with fail;refine Calls.mono KC ?_;rintro e we ⟨rfl,he⟩;have HE:Hid (NOut w0 we rb B s ((depth:Int)+1) st R):=by show NOut _ _ _ _ _ _ _ _;rw[HRK.out];exact he.mono hi1 (by show st.L.length≤_;rw[hGl];omega)
          clear he KC;go_wp2_with fail;go_meet;exact HE
        iterate 2
         ·have HRK:Hid (R=match mustR s i7 91 with
           |.error b=>.error b
           |.ok i2=>match nodeF s f (st.L.length:Int) (depth+1) ⟨i2,Gq,f3⟩with
            |.error b=>.error b
            |.ok st3=>match mustR s st3.i 93 with
             |.error b=>.error b
             |.ok i4=>.ok {st3 with i:=i4}):=HRo0.out;have M91:Hid (Calls prog 48 #[Pq rb,.int .u8 91] wd fun e w'=>e=.returned (.tuple #[])∧RW w0 w' rb B s (gotI s i7 91) Gq f3 (if isAt s i7 91 then-1 else(sk s i7:Int)) ((depth:Int)+1)):=by have:=rw_must 91 (by omega) H1 hs;rw[mB_ok,mI_ok]at this;exact this
          have hgi:=gotI_ge s i7 91;by_cases hq:isAt s i7 91=true
          ·have hgi2:i7<gotI s i7 91:=by rw[gI_at hq];have:=sk_ge s i7;omega
           have HR2:Hid (R=match nodeF s f (st.L.length:Int) (depth+1) ⟨gotI s i7 91,Gq,f3⟩with
            |.error b=>.error b
            |.ok st3=>match mustR s st3.i 93 with
             |.error b=>.error b
             |.ok i4=>.ok {st3 with i:=i4}):=by show _=_;rw[HRK.out];unfold mustR;rw[if_pos hq]
           simp only[hq,if_true]at M91;clear HRK hq;go_wp2_with fail;refine Calls.mono M91 ?_;rintro e we ⟨rfl,he⟩;have NC:Hid (Calls prog 20 #[Pq rb,Iq (st.L.length:Int)] we fun e w'=>e=.returned (.tuple #[])∧NOut w0 w' rb B s ((depth:Int)+1) ⟨gotI s i7 91,Gq,f3⟩ (nodeF s f (st.L.length:Int) (depth+1) ⟨gotI s i7 91,Gq,f3⟩)):=by have:=HN (st.L.length:Int) (depth+1) ⟨gotI s i7 91,Gq,f3⟩ w0 we (by rw[hcast];exact he) (.inr ⟨by omega,by show(st.L.length:Int)<(_:Nat);rw[hGl];omega⟩) (by show depth+1≤gotI s i7 91;omega) (by show s.size<f+gotI s i7 91;omega);rw[hcast]at this;exact this
           clear he M91;go_wp2_with fail;cases hp:nodeF s f (st.L.length:Int) (depth+1) ⟨gotI s i7 91,Gq,f3⟩with
           |error b=>
            have HR3:Hid (R=.error b):=by show _=_;rw[HR2.out,hp]
            rw[hp]at NC;clear hp HR2;refine Calls.mono NC ?_;rintro e wg ⟨rfl,ig,Lg,gg,hg⟩;have M93:Hid (Calls prog 48 #[Pq rb,.int .u8 93] wg fun e w'=>e=.returned (.tuple #[])∧RW w0 w' rb B s (mI s ig 93 b) Lg gg (b:Int) ((depth:Int)+1)):=by have:=rw_must 93 (by omega) hg hs;rw[mB_bad]at this;exact this
            clear hg NC;go_wp2_with fail;refine Calls.mono M93 ?_;rintro e wh ⟨rfl,hh⟩;have HH:=qH<|hh;clear hh M93;go_wp2_with fail;go_meet;exact NOut.err HR3 ⟨_,_,_,HH⟩
           |ok st3=>
            have HR3:Hid (R=match mustR s st3.i 93 with
             |.error b=>.error b
             |.ok i4=>.ok {st3 with i:=i4}):=by show _=_;rw[HR2.out,hp]
            rw[hp]at NC;clear hp HR2;refine Calls.mono NC ?_;rintro e wg ⟨rfl,hg,pg,lg⟩;have hpg:gotI s i7 91<st3.i:=pg;have hlg:st.L.length+1≤st3.L.length:=by have:_≤st3.L.length:=lg;simp only at this;rw[hGl]at this;exact this
            have hgi3:=gotI_ge s st3.i 93;have M93:Hid (Calls prog 48 #[Pq rb,.int .u8 93] wg fun e w'=>e=.returned (.tuple #[])∧RW w0 w' rb B s (gotI s st3.i 93) st3.L st3.er (if isAt s st3.i 93 then-1 else(sk s st3.i:Int)) ((depth:Int)+1)):=by have:=rw_must 93 (by omega) hg hs;rw[mB_ok,mI_ok]at this;exact this
            clear hg NC pg lg;go_wp2_with fail;refine Calls.mono M93 ?_;rintro e wh ⟨rfl,hh⟩;have HH:Hid (NOut w0 wh rb B s ((depth:Int)+1) st R):=by
             show NOut _ _ _ _ _ _ _ _;rw[HR3.out];unfold mustR;by_cases hm:isAt s st3.i 93=true;·rw[if_pos hm]at hh⊢;exact⟨hh,by show st.i<gotI s st3.i 93;omega,by show st.L.length≤st3.L.length;omega⟩
             ·rw[if_neg hm]at hh⊢;exact⟨_,_,_,hh⟩
            clear hh M93;go_wp2_with fail;go_meet;exact HH
          ·have HR2:Hid (R=.error (sk s i7)):=by show _=_;rw[HRK.out];unfold mustR;rw[if_neg hq]
           rw[if_neg hq]at M91;clear HRK hq;go_wp2_with fail;refine Calls.mono M91 ?_;rintro e we ⟨rfl,he⟩;have HE:=qH<|he;clear he M91;go_wp2_with fail;refine Calls.mono (node_bad rb B s _ Gq f3 (sk s i7:Int) ((depth:Int)+1) (st.L.length:Int) w0 we HE (by omega) hs) ?_;rintro e wg ⟨rfl,hg⟩;have M93:Hid (Calls prog 48 #[Pq rb,.int .u8 93] wg fun e w'=>e=.returned (.tuple #[])∧RW w0 w' rb B s (mI s (sk s (gotI s i7 91)) 93 (sk s i7:Int)) Gq f3 (sk s i7:Int) ((depth:Int)+1)):=by have:=rw_must 93 (by omega) hg hs;rw[mB_bad]at this;exact this
           clear hg HE;go_wp2_with fail;refine Calls.mono M93 ?_;rintro e wh ⟨rfl,hh⟩;have HH:=qH<|hh;clear hh M93;go_wp2_with fail;go_meet;exact NOut.err HR2 ⟨_,_,_,HH⟩
        ·have HRK:Hid (R=match quoR s i7 with
          |.error b=>.error b
          |.ok (i2,t)=>.ok ⟨i2,withText Gq st.L.length t,f3⟩):=HRo0.out;have QC:=rw_quoted H1 hs;cases hp:quoR s i7 with
         |error b=>
          have HR3:Hid (R=.error b):=by show _=_;rw[HRK.out,hp]
          rw[hp]at QC;have QH:Hid (Calls prog 49 #[Pq rb] wd fun e w'=>e=.returned (.string ByteArray.empty)∧∃p,RW w0 w' rb B s p Gq f3 (b:Int) ((depth:Int)+1)):=QC;clear hp HRK QC;go_wp2_with fail;refine Calls.mono QH ?_;rintro e we ⟨rfl,i',he⟩;obtain⟨gb,cap,c2,⟨u2,d2⟩,z2,hcap,hgr,hst⟩:=he.text (k:=st.L.length) (by rw[hGl];omega);rw[hGl]at c2 hcap;have HST:Hid (RW w0 (we.setCell ⟨gb,st.L.length*5+2,none⟩ (.string ByteArray.empty)) rb B s i' (withText Gq st.L.length []) f3 (b:Int) ((depth:Int)+1)):=hst [];clear he hst QH;have hlt:(st.L.length:Int)<((st.L.length+1:Nat):Int):=by omega
          have hlt2:(st.L.length:Int)<(st.L.length:Int)+1:=by omega
          go_wp2_with fail;go_meet;exact NOut.err HR3 ⟨_,_,_,HST⟩
         |ok q=>
          obtain⟨i2,tt⟩:=q;have HR3:Hid (R=.ok ⟨i2,withText Gq st.L.length tt,f3⟩):=by show _=_;rw[HRK.out,hp]
          have hqb:=quoR_bd hi7 hp;rw[hp]at QC;have QH:Hid (Calls prog 49 #[Pq rb] wd fun e w'=>e=.returned (.string ⟨tt.toArray⟩)∧RW w0 w' rb B s i2 Gq f3 (-1) ((depth:Int)+1)):=QC;clear hp HRK QC;go_wp2_with fail;refine Calls.mono QH ?_;rintro e we ⟨rfl,he⟩;obtain⟨gb,cap,c2,⟨u2,d2⟩,z2,hcap,hgr,hst⟩:=he.text (k:=st.L.length) (by rw[hGl];omega);rw[hGl]at c2 hcap;have HST:=qH<|hst tt;clear he hst QH;have hlt:(st.L.length:Int)<((st.L.length+1:Nat):Int):=by omega
          have hlt2:(st.L.length:Int)<(st.L.length:Int)+1:=by omega
          go_wp2_with fail;go_meet;have hfin:NOut w0 (we.setCell ⟨gb,st.L.length*5+2,none⟩ (.string ⟨tt.toArray⟩)) rb B s ((depth:Int)+1) st R:=by rw[HR3.out];exact⟨HST,by show st.i<i2;omega,by show st.L.length≤(withText Gq st.L.length tt).length;rw[withText_len,hGl];omega⟩
          exact hfin
        ·have HRK:Hid (R=.ok ⟨i7,Gq,f3⟩):=HRo0.out;have hfin:NOut w0 wd rb B s ((depth:Int)+1) st R:=by rw[HRK.out];exact⟨H1,by show st.i<i7;omega,by show st.L.length≤_;rw[hGl];omega⟩
         have HFN:=qH<|hfin;clear hfin;go_wp2_with fail;go_meet;exact HFN
      case rest=>
       have HO:=hcut;clear hcut;have HC:Hid (∃bad,(∃i L g,RW w0 wc rb B s i L g bad ((depth:Int)+1))):=by
        have ho:=HO.out;cases R with
        |error b=>obtain⟨i,L,g,h⟩:=ho;exact⟨b,i,L,g,h⟩
        |ok st'=>exact⟨-1,_,_,_,ho.1⟩
       obtain⟨bz,iz,Lz,gz,hz⟩:=HC.out;obtain⟨nvz,AVz,KVz,erz,atz,rz,flz,dz⟩:=hz.mem;have c6:=rz.c6;have z6:=rz.fz 6;have HFIN:Hid (NOut w0 (wc.setCell ⟨rb,6,none⟩ (Iq (depth:Int))) rb B s (depth:Int) st R):=by
        have ho:=HO.out;cases R with
        |error b=>obtain⟨i,L,g,h⟩:=ho;exact⟨i,L,g,h.setD _⟩
        |ok st'=>exact⟨ho.1.setD _,ho.2⟩
       have e1:(depth:Int)+1-1=(depth:Int):=by omega
       clear rz flz dz hz HC HO;go_wp2;go_end0;exact⟨rfl,HFIN⟩
end
end Go.Proofs.YtmbefonnkkhfgaaGreatDoor
