import Derived.Test.YtaanagpadfcmlaaGreatDoorQ26
import Derived.Deep.CutBlock
set_option linter.all false
set_option maxRecDepth 100000
set_option maxHeartbeats 16000000
namespace Go.Proofs.YtaanagpadfcmlaaGreatDoor
open Go.RowKit Go.Proofs.Tryz
section
variable{W W':World} {rb i:Nat} {s:ByteArray} {lv:Value} {bad er at_ cO:Int}
theorem RS.setL(h:RS W rb s i lv bad er at_ cO)v:RS (W.setCell (aj rb 2) v) rb s i v bad er at_ cO:=
 ⟨by simpa using h.lt,aE dg h.c0,aE dg h.c1,gh h.c2,aE dg h.c3,aE dg h.c4,aE dg h.c5,aE dg h.c6,λj=>by rw[fI];exact h.fz j⟩
theorem RS.setD(h:RS W rb s i lv bad er at_ cO)d:RS (W.setCell (aj rb 6) (Iq d)) rb s i lv bad er at_ d:=
 ⟨by simpa using h.lt,aE dg h.c0,aE dg h.c1,aE dg h.c2,aE dg h.c3,aE dg h.c4,aE dg h.c5,gh h.c6,λj=>by rw[fI];exact h.fz j⟩
theorem RS.far{o}{B}(h:RS W rb s i lv bad er at_ cO)(b:W.grownBy W' o)(c:∀g,o=some g->B<=g)(d:rb<B):RS W' rb s i lv bad er at_ cO:=by have a:=b.block rb h.lt (λe=>rd);have k:∀j,W'.cell? (aj rb j)=W.cell? (aj rb j):=λj=>bf a;exact⟨zz007 h.lt b.size,(k 0).trans h.c0,(k 1).trans h.c1,(k 2).trans h.c2,(k 3).trans h.c3,(k 4).trans h.c4,(k 5).trans h.c5,(k 6).trans h.c6,λj=>(nH a).trans (h.fz j)⟩
end
structure NM(W0 W:World)(rb B:Nat)(s:ByteArray)(i j:Nat)(L:List Nd)(f:fA)(cO:Int):Prop where
 rbB:rb<B
 le:B<=W.heap.size
 fr:Fr B rb W0 W
 mem:∃nv AV KV er at_,RS W rb s i nv (-1) er at_ cO/\FL er at_ f j/\RD W B nv L AV KV
theorem xR{a W}{rb B i j}{s}{L}{f}{cO}(h:NM a W rb B s i j L f cO)(c p:Nat)(hp:j<=p):
 Cw 144 #[Pq rb,Iq (c:Int),Iq (p:Int)] W λr w'=>r=Rw (.tuple #[])/\NM a w' rb B s i p L (gI f c p) cO:=by obtain⟨b,d,k,er,at_,h1,l,m⟩:=h.mem;refine(wrong_any rb s i b (-1) er at_ cO c p W h1).mono ?_;rintro e w' ⟨rfl,r,g⟩;exact⟨rfl,h.rbB,aF h.le g.size,h.fr.trans (Fr.grown g h.le),b,d,k,_,_,r,l.add c p hp,m.up (Up.grown g h.rbB)⟩
theorem NM.slice{d W}{rb B i j}{s}{L}{f}{cO}(h:NM d W rb B s i j L f cO):∃p c a b er at_,RS W rb s i (.slice p L.length c) (-1) er at_ cO/\FL er at_ f j/\RD W B (.slice p L.length c) L a b:=by obtain⟨g,a,b,er,at_,h1,k,e⟩:=h.mem;obtain⟨p,c,rfl⟩:∃p c,g=.slice p L.length c:=db e.nr.row.choose_spec;grind
theorem Ou:(prog.info? 100).map (λi=>(i.zero,i.size,i.bytes))=some (some (.agg #[Iq 0,.slice none 0 0,.string ⟨#[]⟩,.slice none 0 0,Iq 0]),5,80):=ns
theorem OM d ab:∀u∈jp d (PW ab) (.slice none 0 0),u.oneCell'=true:=by intro u hu;unfold jp PW at hu;simp at hu;rcases hu with rfl|rfl|rfl|rfl|rfl<;>rfl
theorem tC{s}{b}{L}:∀  f i   er   a   seen   d   c   g,dw s b L f i er a seen=.ok (d,c,g)->i<=d
 |0,i,er,a,seen,d,c,g,e=>by cases e
 |f+1,i,er,a,seen,d,c,g,e=>by
  have l:=jw s i (-1);have h1:=lW s b L i er a seen (-1) dg;obtain⟨q,j⟩:=ad (fa b L er a seen (bc s i (-1)));rw[j]at h1;obtain⟨f3,k,m⟩:=q;rcases h1 with⟨_,h1⟩|⟨_,h1⟩
  ·by_cases h:aL s (bc s i (-1)).i 59=true;·rw[jT h1 h]at e;have:=tC f _ _ _ _ _ _ _ e;grind[bG,bc]
   ·rw[jS h1 h]at e;grind[jY,cC,bG,bc]
  simp_all[lX]
theorem tD{s}{a}{L}{i}{er}{c}{b}{d}(e:cW s a L i er=.ok (c,b,d)):i<=c:=by
 unfold cW at e;split at e;·have:=tC _ _ _ _ _ _ _ _ e;grind[bG]
 grind[du]
theorem Ik L(d:Nd)(hd:d.kids=[])(h:∀j,(aa L j).kids.length<=L.length)(a:d.up=-1\/(0<=d.up/\d.up<L.length))j:(aa (grown L d) j).kids.length<=(grown L d).length:=by grind[dk,aa,ci,cJ,grown,iV,aT,aN]
theorem OU{G wc w3}{rb B g h t j c:Nat}{s}{i}{a}{bad er at_ cO}{r}{l}{n}{C}{y}{f}(hp:RS w3 rb s i (Sq g h t) bad er at_ cO)(E:RD wc B (Sq g h t) r l n)(N:r.length=h)(J:Fr B rb G wc)(z:B<=wc.heap.size)(A:rb<B)(H:B<=g)(D:j<h)(L:n j=.slice C f.length y)(M:(aa r j).kids=f)o(P:w3.ownsRow B 3 1 a (f.length+1) (iX f++[Iq (c:Int)]))(K:((wc.alloc o).drew).grownBy w3 (Value.slice C f.length y).ownBlock)(I:a.ownBlock=(Value.slice C f.length y).ownBlock\/a.ownBlock=some ((wc.alloc o).drew).heap.size):
 ∃x,RS (w3.setCell (aj g (j*5+3)) a) rb s i (Sq g h t) bad er at_ cO/\RD (w3.setCell (aj g (j*5+3)) a) B (Sq g h t) (r.modify j λu=>{u with kids:=u.kids++[c]}) l x/\Fr B rb G (w3.setCell (aj g (j*5+3)) a)/\B<=(w3.setCell (aj g (j*5+3)) a).heap.size:=by subst N;have p:=E.nr.kids j D;rw[L]at p;have d:Bt wc (wc.alloc o).drew:=cX ((af wc.heap.size wc).alloc (ae _) o) 1;have v:=E.up (Up.below (B:=B) d);have w:=v.kid (k:=j) (c:=c) (W':=w3) (kv':=a) D (by grind[iX]) rd rd;have b:Fr B rb wc w3:=(Fr.below d z).trans (Fr.own K (aF z d.size) (λg e=>(p.lt g e).1));have m:Fr B rb w3 (w3.setCell (aj g (j*5+3)) a):=Fr.own (bF w3 g _ _) (aF z b.size) (λq e=>rd);exact⟨_,RS.far hp (bF w3 g _ _) (λq e=>rd) A,w,J.trans (b.trans m),by have:=b.size;have:=m.size;omega⟩
theorem fJ.err{a W'}{rb B}{s}{cO}{st}{r:Except Nat PS}{b}(c:r=.error b)(h:∃i L g,RW a W' rb B s i L g (b:Int) cO):fJ a W' rb B s cO st r:=by rw[c];exact h
theorem fJ.mono{W0 W'}{rb B}{s}{cO}{st a}{r}(h:fJ W0 W' rb B s cO a r)(hi:st.i<=a.i)(c:st.L.length<=a.L.length):fJ W0 W' rb B s cO st r:=by
 cases r with
 |error b=>exact h
 |ok d=>exact⟨h.1,Nat.lt_of_le_of_lt hi h.2.1,aF c h.2.2⟩
def xb(r:Except Nat (Nat×fA×List Int)):fA:=match r with
 |.error _=>none
 |.ok (_,f,_)=>f
theorem RW.setD{a W}{rb B i}{s}{L}{f}{bad cO}(h:RW a W rb B s i L f bad cO)d:RW a (W.setCell (aj rb 6) (Iq d)) rb B s i L f bad d:=by obtain⟨j,b,c,er,at_,h1,e,g⟩:=h.mem;exact⟨h.il,h.ll,h.kl,h.rbB,by simpa[World.setCell]using h.le,h.fr.trans (Fr.set _ _),j,b,c,er,at_,h1.setD d,e,g.up (Up.set _ h.rbB _)⟩
theorem Fz(rb B:Nat)(s:ByteArray)(f:Nat)(hN:CZ rb B s f)(X:s.size<=1073741824):CZ rb B s (f+1):=by
 intro up c st m w h hup hd hf;have SK:=qH<|rw_skip h X;have HN:=qH<|hN;have X9:=h.il;have Pj:=h.ll dg;have zA:=qH<|h.kl;obtain⟨d,zc⟩:=ad (sk s st.i);have _w:st.i<=d:=by rw[<-zc];exact du _ _
 have zG:d<=s.size:=by rw[<-zc];exact dX s _ X9
 have Y:sk s d=d:=by rw[<-zc,kF]
 obtain⟨R,hR⟩:=ad (cD s (f+1) up c st);have HR:Hid (R=if run ao s d=d\/aI bU (s.extract d (run ao s d)) 0<0 then .error d else match cW s (aI bU (s.extract d (run ao s d)) 0).toNat st.L (run ao s d) (bn (decide (12<=c)) (bn (decide (100<=st.L.length)) st.er 3 d) 4 d)with
  |.error b=>.error b
  |.ok (N,zF,a)=>iw s (aI bU (s.extract d (run ao s d)) 0).toNat st.L.length (cD s f st.L.length (c+1)) {i:=N,L:=grown st.L ⟨(aI bU (s.extract d (run ao s d)) 0).toNat,a,[],[],up⟩,er:=zF}):=by show _=_;rw[<-hR,cD];simp only[zc];rfl
 have Y2:=DY (s:=s) (i:=d) (-1) zG;rw[zc]at SK;rw[hR];clear h hN zc hR;go_enter func67,ntmps67;go_wp2_with fail;refine ag SK ?_;rintro e w1 ⟨rfl,h1⟩;obtain⟨P,AV,KV,er,at_,r1,f1,d1⟩:=h1.mem;have c1:=r1.c1;have Z:Hid (rb<B/\B<=w1.heap.size/\Fr B rb m w1/\FL er at_ st.er d/\RD w1 B P st.L AV KV):=⟨h1.rbB,h1.le,h1.fr,f1 dg,d1⟩;have WO:Hid (Cw 141 #[Pq rb] w1 λe w'=>e=Rw (.string (s.extract d (run ao s d)))/\RS w' rb s (run ao s d) P (if run ao s d=d then(d:Int)else-1) er at_ (c:Int)/\w1.grownBy w' (some rb)):=by
  have:=word_all rb s d P (-1) er at_ (c:Int) w1 r1 dg zG;have e1:wS s d (-1)=s.extract d (run ao s d):=by unfold wS;rw[if_pos dg,Y]
  have e2:wI s d (-1)=run ao s d:=by unfold wI;rw[if_pos dg,Y]
  have e3:wB s d (-1)=if run ao s d=d then(d:Int)else-1:=by unfold wB;rw[if_pos dg];unfold im;rw[Y]
  rw[e1,e2,e3]at this;exact this
 have zN:run ao s d<=s.size:=h_ _ _ _ zG;have SS:=g_ ao s d;clear r1 f1 d1 h1 SK Y2 Y;obtain⟨k,hk⟩:=ad (run ao s d);have ZK:=qH<|hk;rw[hk]at HR WO zN SS;clear hk;go_wp2_with fail;clear c1;refine ag WO ?_;rintro e w2 ⟨rfl,r2,g2⟩;have H2:Hid (RS w2 rb s k P (if k=d then(d:Int)else-1) er at_ (c:Int)/\rb<B/\B<=w2.heap.size/\Fr B rb m w2/\FL er at_ st.er d/\RD w2 B P st.L AV KV):=⟨r2,Z.1,aF Z.2.1 g2.size,Z.2.2.1.trans (Fr.grown g2 Z.2.1),Z.2.2.2.1,Z.2.2.2.2.up (Up.grown g2 Z.1)⟩;clear r2 g2 WO Z;go_wp2_with fail;refine ag (tV w2) ?_;rintro e w3 ⟨rfl,U7,UR,b3⟩;have H3:Hid (RS w3 rb s k P (if k=d then(d:Int)else-1) er at_ (c:Int)/\rb<B/\B<=w3.heap.size/\Fr B rb m w3/\FL er at_ st.er d/\RD w3 B P st.L AV KV):=⟨H2.1.below b3,H2.2.1,aF H2.2.2.1 b3.size,H2.2.2.2.1.trans (Fr.below b3 H2.2.2.1),H2.2.2.2.2.1,H2.2.2.2.2.2.up (Up.below b3)⟩;have FI:=qH<|find_any bU (s.extract d k) w2.heap.size 0 7 7 w3 UR U7 rfl dg;have zV:=iT (s.extract d k) bU 0;have zJ:bU.length=7:=rfl;have zz:Hid (k=d->aI bU (s.extract d k) 0=-1):=λe=>by grind[qJ,qL]
 obtain⟨kd,hkd⟩:=ad (aI bU (s.extract d k) 0);rw[hkd]at HR FI zV zz;generalize s.extract d k=tx at FI⊢;clear hkd U7 UR b3 H2;go_wp2_with fail;refine ag FI ?_;rintro e w4 ⟨rfl,Y1⟩;obtain rfl:=Y1.symm;clear FI;by_cases zy:kd<0
 ·have SQ:kd=-1:=dg
  subst SQ;have J:Hid (R=.error d):=by show _=_;rw[HR.out,if_pos (.inr dg)]
  have FA:Hid (Cw 69 #[Pq rb,Iq (d:Int)] w3 λe w'=>e=Rw (.tuple #[])/\RS w' rb s k P (d:Int) er at_ (c:Int)/\w3.grownBy w' (some rb)):=by
   have:=fail_any rb s k P (if k=d then(d:Int)else-1) er at_ (c:Int) (d:Int) w3 H3.1;have e:e_ (if k=d then(d:Int)else-1) (d:Int)=d:=by
    unfold e_;by_cases e:k=d;·omega
    ·omega
   rw[e]at this;exact this
  clear HR zy;go_wp2_with fail;refine ag FA ?_;rintro e w5 ⟨rfl,r5,g5⟩;have H5:Hid (RW m w5 rb B s k st.L st.er (d:Int) (c:Int)):=⟨zN,λe=>dg,zA,H3.2.1,aF H3.2.2.1 g5.size,H3.2.2.2.1.trans (Fr.grown g5 H3.2.2.1),P,AV,KV,er,at_,r5,λe=>dg,H3.2.2.2.2.2.up (Up.grown g5 H3.2.1)⟩;have c3:=r5.c3;have Pf:decide ((0:Int)<=(d:Int))=true:=decide_eq_true dg;clear r5 g5 FA;go_wp2;refine bodyPost_ret (results_none rfl _ _ _) rfl ?_;refine⟨rfl,?_⟩;show fJ _ _ _ _ _ _ _ _;rw[J.out];exact⟨_,_,_,H5⟩
 ·obtain⟨kn,rfl⟩:∃z:Nat,kd=z:=⟨kd.toNat,dg⟩;have SO:kn<7:=dg
  have Yc:k≠d:=λe=>by have:=zz e;omega
  have J:Hid (R=match cW s kn st.L k (bn (decide (12<=c)) (bn (decide (100<=st.L.length)) st.er 3 d) 4 d)with
   |.error b=>.error b
   |.ok (N,zF,a)=>iw s kn st.L.length (cD s f st.L.length (c+1)) {i:=N,L:=grown st.L ⟨kn,a,[],[],up⟩,er:=zF}):=by show _=_;rw[HR.out,if_neg dg];rfl
  have QY:decide ((kn:Int)<0)=false:=decide_eq_false dg;have M3:Hid (NM m w3 rb B s k d st.L st.er (c:Int)):=by have hh:=H3.out;rw[if_neg Yc]at hh;exact⟨hh.2.1,hh.2.2.1,hh.2.2.2.1,P,AV,KV,er,at_,hh.1,hh.2.2.2.2.1,hh.2.2.2.2.2⟩
  clear HR zy H3 zz zV zJ;obtain⟨pn,cn,Zx,ZV,_b,ZY,r3,f3,d3⟩:=M3.slice;have c2:=r3.c2;have c3:=r3.c3;clear r3 f3 d3;go_upto_if 36 with fail;clear c2 c3;go_cut[36,39]from 37 to 38 (λ_ _ H=>Hid (NM m H rb B s k d st.L (bn (decide (100<=st.L.length)) st.er 3 d) (c:Int)));case first=>
   by_cases hc:100<=st.L.length
   ·have zI:decide ((100:Int)<=(st.L.length:Int))=true:=decide_eq_true dg;have E:=decide_eq_true hc;have WR:Hid (Cw 144 #[Pq rb,Iq 3,Iq (d:Int)] w3 λr w'=>r=Rw (.tuple #[])/\NM m w' rb B s k d st.L (bn (decide (100<=st.L.length)) st.er 3 d) (c:Int)):=by rw[E];exact xR M3 3 d (ae _)
    clear E;go_wp2_with fail;refine ag WR ?_;rintro e wn ⟨rfl,hn⟩;have MN:=qH<|hn;clear hn WR;go_wp2_with fail;go_meet;exact MN
   ·have zI:decide ((100:Int)<=(st.L.length:Int))=false:=decide_eq_false dg;have E:=decide_eq_false hc;have MN:Hid (NM m w3 rb B s k d st.L (bn (decide (100<=st.L.length)) st.er 3 d) (c:Int)):=by rw[E];exact M3
    clear E;go_wp2_with fail;go_meet;exact MN
  case rest=>
   obtain⟨f1,zo⟩:=ad (bn (decide (100<=st.L.length)) st.er 3 d);rw[zo]at hcut J;have M5:=hcut;clear zo hcut M3;obtain⟨Vz,Z_,Zy,Xb,_c,ZZ,r5,f5,d5⟩:=M5.slice;have c6:=r5.c6;clear r5 f5 d5;go_upto_if 44 with fail;clear c6;go_cut[44,47]from 45 to 46 (λ_ _ H=>Hid (NM m H rb B s k d st.L (bn (decide (12<=c)) f1 4 d) (c:Int)));case first=>
    by_cases hc:12<=c
    ·have zI:decide ((12:Int)<=(c:Int))=true:=decide_eq_true dg;have E:=decide_eq_true hc;have WR:Hid (Cw 144 #[Pq rb,Iq 4,Iq (d:Int)] wc λr w'=>r=Rw (.tuple #[])/\NM m w' rb B s k d st.L (bn (decide (12<=c)) f1 4 d) (c:Int)):=by rw[E];exact xR M5 4 d (ae _)
     clear E;go_wp2_with fail;refine ag WR ?_;rintro e wn ⟨rfl,hn⟩;have MN:=qH<|hn;clear hn WR;go_wp2_with fail;go_meet;exact MN
    ·have zI:decide ((12:Int)<=(c:Int))=false:=decide_eq_false dg;have E:=decide_eq_false hc;have MN:Hid (NM m wc rb B s k d st.L (bn (decide (12<=c)) f1 4 d) (c:Int)):=by rw[E];exact M5
     clear E;go_wp2_with fail;go_meet;exact MN
   case rest=>
    obtain⟨f2,zU⟩:=ad (bn (decide (12<=c)) f1 4 d);rw[zU]at hcut J;have M6:=hcut;clear zU hcut M5;obtain⟨p6,q6,zm,zg,Xl,Xg,r6,zS,d6⟩:=M6.slice;have c2:=r6.c2;have AT:=qH<|attrs_any rb s k (.slice p6 st.L.length q6) (-1) Xl Xg (c:Int) kn st.L f2 wc r6 (zS.on SS) (d6.ids M6.rbB) X zN dg SO dg;have D6:=qH<|d6;clear r6 zS d6;go_wp2_with fail;clear c2;refine ag AT ?_;rintro e w7 ⟨ab,a,l,o,zi,zh,rfl,zT,Yg,hra,g7,r7,zZ,UU⟩;have D7:=qH<|D6.up (Up.grown g7 M6.rbB);have R7:=qH<|r7;have A7:=qH<|hra;have I:Hid (rb<B/\B<=w7.heap.size/\Fr B rb m w7/\B<=ab):=⟨M6.rbB,aF M6.le g7.size,M6.fr.trans (Fr.grown g7 M6.le),aF M6.le zT⟩;have zD:Hid ((∀j,j<st.L.length->(zg j).ownBlock≠some ab)/\(Value.slice p6 st.L.length q6).ownBlock≠some ab):=by obtain⟨xs,hx⟩:=D6.nr.row;exact⟨λj hj e=>by have:=((D6.nr.kids j hj).lt ab e).2;omega,λe=>by have:=(hx.lt ab e).2;omega⟩
    have za:Hid (match cW s kn st.L k f2 with
     |.error b=>o=(b:Int)
     |.ok (N,f3,a2)=>o=-1/\l=N/\a=a2/\FL zi zh f3 N):=UU;clear zT hra g7 r7 UU AT M6 D6;obtain⟨i0,zY,Ny,Nz,zr⟩:=info_parts Ou;obtain⟨xs,hxs⟩:=D7.nr.row;have HX:=qH<|hxs;clear hxs;have c2:=R7.c2;go_upto_region 13 with fail;go_cut[8]from 56 to 68 (λv H=>v=Sq ab 12 12/\∃p1 q1,Hid (RS H rb s l (.slice p1 (st.L.length+1) q1) o zi zh (c:Int)/\RD H B (.slice p1 (st.L.length+1) q1) (st.L++[⟨kn,a,[],[],up⟩]) (λj=>if j=st.L.length then ab else zm j) (λj=>if j=st.L.length then .slice none 0 0 else zg j)/\Fr B rb m H/\B<=H.heap.size));case first=>
     go_wp2_with(at_builtin;refine wpList_append_own_at _ rfl _ _ 62 rfl B 100 i0 _ 5 80 underlying62 zY Ny Nz zr rfl (by decide) _ _ _ rfl (HX.alloc _) _ 1 1 (jp ⟨kn,a,[],[],up⟩ (PW ab) (.slice none 0 0)) rfl rfl (iQ _ _ _ _ rfl) (OM _ _) (by unfold maxLen;omega) dg (by rw[au];have:=I.2.1;omega) ?_);intro v1 w8 o8 g8 _ zv;obtain⟨p1,q1,Qv⟩:=db o8;subst Qv;have bA:=(af w7.heap.size w7).alloc (ae _) (.cells #[Iq (kn:Int),Sq ab 12 12,.string ⟨#[]⟩,.slice none 0 0,Iq up] 100);have zw:(Value.slice p1 (st.L.length+1) q1).ownBlock=(Value.slice p6 st.L.length q6).ownBlock\/(Value.slice p1 (st.L.length+1) q1).ownBlock=some (w7.alloc (.cells #[Iq (kn:Int),Sq ab 12 12,.string ⟨#[]⟩,.slice none 0 0,Iq up] 100)).heap.size:=by rw[au];exact zv
     have R8:=qH<|RS.far (R7.below bA) g8 (λg e=>(HX.lt g e).1) I.1;have D8:=qH<|RD.app (D7.up (Up.below bA)) (HX.alloc _) o8 g8 zw Yg rfl I.2.2.2 (A7.below bA) zD.1 zD.2;have F8:Hid (Fr B rb m w8/\B<=w8.heap.size):=by have hz:=bA.size;have zr:=I.2.1;exact⟨I.2.2.1.trans ((Fr.below bA zr).trans (Fr.own g8 dg (λg e=>(HX.lt g e).1))),by have:=g8.size;omega⟩
     have k2:=R8.c2;have kf:=R8.fz 2;obtain⟨w9,Ts⟩:=ad (w8.setCell (aj rb 2) (.slice p1 (st.L.length+1) q1));have HQ:Hid (RS w9 rb s l (.slice p1 (st.L.length+1) q1) o zi zh (c:Int)/\RD w9 B (.slice p1 (st.L.length+1) q1) (st.L++[⟨kn,a,[],[],up⟩]) (λj=>if j=st.L.length then ab else zm j) (λj=>if j=st.L.length then .slice none 0 0 else zg j)/\Fr B rb m w9/\B<=w9.heap.size):=by rw[<-Ts];exact⟨R8.setL _,D8.up (Up.set _ I.1 _),F8.1.trans (Fr.set _ _),by simpa[World.setCell]using F8.2⟩
     clear o8 g8 zv zw bA;go_wp2_with fail;go_meet;grind
    case rest=>
     obtain⟨rfl,p1,q1,HM⟩:=hcut;clear HX c2 zY Ny Nz zr D7 R7 A7 zD;have zB:Hid (∀H P AV KV,RS H rb s l P o zi zh (c:Int)->RD H B P (grown st.L ⟨kn,a,[],[],up⟩) AV KV->Fr B rb m H->B<=H.heap.size->RW m H rb B s l (grown st.L ⟨kn,a,[],[],up⟩) (xb (cW s kn st.L k f2)) o (c:Int)):=λH P AV KV h1 h2 h3 h4=>by
      refine⟨zZ,λhb=>?_,Ik _ _ rfl zA hup,I.1,h4,h3,P,AV,KV,zi,zh,h1,λhb=>?_,h2⟩;·have hm:=za.out;rw[dk];cases x:cW s kn st.L k f2 with
       |error b=>grind
       |ok q=>obtain⟨N,f3,a2⟩:=q;rw[x]at hm;have:=tD x;omega
      ·have hm:=za.out;cases x:cW s kn st.L k f2 with
       |error b=>grind
       |ok q=>obtain⟨N,f3,a2⟩:=q;rw[x]at hm;have h5:=hm.2.2.2;rw[<-hm.2.1]at h5;exact h5
     go_upto_if 70 with fail;go_cut[70,88]from 71 to 87 (λ_ _ H=>Hid (RW m H rb B s l (grown st.L ⟨kn,a,[],[],up⟩) (xb (cW s kn st.L k f2)) o (c:Int)));case first=>
      rcases hup with rfl|⟨YQ,Vk⟩
      ·have HO:Hid (RW m wc rb B s l (grown st.L ⟨kn,a,[],[],-1⟩) (xb (cW s kn st.L k f2)) o (c:Int)):=by
        refine zB wc (.slice p1 (st.L.length+1) q1) (λj=>if j=st.L.length then ab else zm j) (λj=>if j=st.L.length then .slice none 0 0 else zg j) HM.1 ?_ HM.2.2.1 HM.2.2.2;have e:grown st.L ⟨kn,a,[],[],-1⟩=st.L++[⟨kn,a,[],[],-1⟩]:=by unfold grown;rw[if_pos rd]
        rw[e];exact HM.2.1
       go_wp2_with fail;go_meet;exact HO
      ·obtain⟨j,rfl⟩:∃j:Nat,up=(j:Int):=⟨up.toNat,dg⟩;have hj:j<st.L.length:=dg
       obtain⟨L1,zj⟩:=ad (st.L++[(⟨kn,a,[],[],(j:Int)⟩:Nd)]);have Wm:Hid (grown st.L ⟨kn,a,[],[],(j:Int)⟩=L1.modify j λu=>{u with kids:=u.kids++[st.L.length]}):=by show _=_;rw[<-zj];exact iV st.L _ j rfl hj
       have zO:L1.length=st.L.length+1:=by rw[<-zj];simp
       have Ye:(aa L1 j).kids.length<=1073741824:=by rw[<-zj,ci hj];have:=zA j;omega
       obtain⟨W_,zu⟩:=ad (fun(q:Nat)=>if q=st.L.length then Value.slice none 0 0 else zg q);obtain⟨V0,zt⟩:=ad (fun(q:Nat)=>if q=st.L.length then ab else zm q);obtain⟨r8,d8,f8,b8⟩:=HM.out;rw[zj,zu,zt]at d8;clear zu zt zj;obtain⟨g,zE,hv,Xx,zX,_,_⟩:=d8.nr.form dg;simp only[zO,Am,true_and]at hv;obtain⟨rfl,rfl⟩:=hv;have UM:j<L1.length:=dg;have zl:=d8.nr.kids j UM;obtain⟨pk,ck,zk⟩:=db zl;obtain⟨ks,zq⟩:=ad ((aa L1 j).kids);rw[zk,zq]at zl;rw[zq]at zk Ye;have zR:=qH<|zl;have Xk:wc.cell? (aj g (j*5+3))=some (.slice pk ks.length ck):=by rw[<-zk];exact d8.nr.cells g rfl j UM 3 (W_ j) rfl
       have zQ:Hid (some g≠(Value.slice pk ks.length ck).ownBlock):=by
        obtain⟨ys,Y9⟩:=d8.nr.row;rcases eL (v':=Sq g (st.L.length+1) q1) zl Y9 (by decide)with e|e;·show some g≠_;rw[e];simp
        ·exact λe2=>e e2.symm
       have Qp:=I.1;have zL:g≠rb:=dg;have f14:wc.frozen? (aj g (j*5+3))=false:=d8.nr.frz rfl (j*5+3);have c2:=r8.c2;have _6:(j:Int)<((st.L.length+1:Nat):Int):=dg;have X':(j:Int)<(st.L.length:Int)+1:=dg;have YH:=r8.lt;have D8:=qH<|d8;have R8:=qH<|r8;have F8:=qH<|f8;have Wn:=qH<|zk;have Wq:=qH<|zq;have Ru:=qH<|zO;obtain⟨i1,zM,Y8,Vr,Vs⟩:=info_parts yX;clear zl d8 zk zq r8 f8 zO HM;go_wp2_with fail;go_region_law(refine ie rfl (.tmp 83) (.tmp 85) 55 rfl B 3 i1 (Iq 0) 1 8 underlying55 zM Y8 Vr Vs rfl (by decide) (.slice pk ks.length ck) ks.length (iX ks) (by simp[Act.eval]) (pd (w:=wc.drew) zR _) _ 1 1 [Iq (st.L.length:Int)] (by simp[Act.eval]) rfl (iQ _ _ _ _ rfl) (by intro u hu;simp at hu;subst hu;rfl) (by unfold maxLen;omega) dg (by simp;omega) ?_;intro v' w3 S O x;obtain⟨Zn,Xh,YU⟩:=db S;subst YU;have zC:=qH<|RS.far ((R8.drewN 1).below ((af _ _).alloc (ae _) _)) O (λg e=>(zR.lt g e).1) Qp;have k3:=zC.c2;have zK:=(O.block g (zz007 zX rn) zQ).trans (heap_alloc_old _ _ zX);have Zi:=(bf zK).trans Xk;have Tz:=(nH zK).trans f14);all_goals
        have HO:Hid (RW m (w3.setCell (aj g (j*5+3)) (.slice Zn (ks.length+1) Xh)) rb B s l (grown st.L ⟨kn,a,[],[],(j:Int)⟩) (xb (cW s kn st.L k f2)) o (c:Int)):=by obtain⟨Xa,z1,z2,z3,z4⟩:=OU zC D8 Ru F8 b8 Qp Xx dg Wn Wq _ S O x;refine zB _ _ V0 Xa z1 ?_ z3 z4;rw[Wm.out];exact z2
        clear zC O x S k3 zK Zi Tz;go_wp2_with fail;go_meet;exact HO
     case rest=>
      have H9:=hcut;clear hcut HM zB;obtain⟨nv9,Zz,ZW,_d,Z0,r9,Xm,d9⟩:=H9.mem;have c6:=r9.c6;have z6:=r9.fz 6;clear r9 Xm d9;obtain⟨wd,Nx⟩:=ad (wc.setCell (aj rb 6) (Iq ((c:Int)+1)));have HD:Hid (RW m wd rb B s l (grown st.L ⟨kn,a,[],[],up⟩) (xb (cW s kn st.L k f2)) o ((c:Int)+1)):=by rw[<-Nx];exact H9.setD _
      have UC:(c:Int)<=1073741824:=dg;go_upto_block 0 with fail;clear Nx c6 z6 H9;go_cut[9]from 97 to 125 (λ_ H=>Hid (fJ m H rb B s ((c:Int)+1) st R));case first=>
       obtain⟨y,hG⟩:=ad (grown st.L ⟨kn,a,[],[],up⟩);have C:y.length=st.L.length+1:=by rw[<-hG,dk]
       rw[hG]at HD;have G:(((c+1:Nat)):Int)=(c:Int)+1:=dg;cases x:cW s kn st.L k f2 with
       |error b=>
        have zn:Hid (R=.error b):=by show _=_;rw[J.out,x]
        have zH:o=(b:Int):=by have:=za.out;rw[x]at this;exact this
        have HB:Hid (RW m wd rb B s l y none (b:Int) ((c:Int)+1)):=by have:=HD.out;rw[x,zH]at this;exact this
        clear x J za HD;rcases(by omega:kn=0\/kn=1\/kn=2\/kn=3\/kn=4\/kn=5\/kn=6)with rfl|rfl|rfl|rfl|rfl|rfl|rfl;iterate 3 ·go_wp2_with fail;refine ag (IK rb B s l y none b ((c:Int)+1) (st.L.length:Int) m wd HB X) ?_;rintro e T ⟨rfl,i',he⟩;have HE:=qH<|he;clear he;go_wp2_with fail;go_meet;exact fJ.err zn ⟨_,_,_,HE⟩
        iterate 2
         ·have F:Hid (Cw 147 #[Pq rb,.int .u8 91] wd λe w'=>e=Rw (.tuple #[])/\RW m w' rb B s (mI s l 91 b) y none (b:Int) ((c:Int)+1)):=by have:=eM 91 dg HB X;rw[ku]at this;exact this
          go_wp2_with fail;refine ag F ?_;rintro e T ⟨rfl,he⟩;have HE:=qH<|he;clear he F;go_wp2_with fail;refine ag (xU rb B s _ y none (b:Int) ((c:Int)+1) (st.L.length:Int) m T HE dg X) ?_;rintro e wg ⟨rfl,O⟩;have D:Hid (Cw 147 #[Pq rb,.int .u8 93] wg λe w'=>e=Rw (.tuple #[])/\RW m w' rb B s (mI s (sk s (mI s l 91 b)) 93 b) y none (b:Int) ((c:Int)+1)):=by have:=eM 93 dg O X;rw[ku]at this;exact this
          clear O;go_wp2_with fail;refine ag D ?_;rintro e wh ⟨rfl,hh⟩;have HH:=qH<|hh;clear hh D;go_wp2_with fail;go_meet;exact fJ.err zn ⟨_,_,_,HH⟩
        ·go_wp2_with fail;refine ag (ta rb B s l y none b ((c:Int)+1) m wd HB X) ?_;rintro e T ⟨rfl,i',he⟩;have HE:=qH<|he;obtain⟨gb,zE,c2,⟨u2,d2⟩,z2,K,zL,M⟩:=he.text (k:=st.L.length) (by rw[C];omega);rw[C]at c2 K;have ze:Hid (RW m (T.setCell (aj gb (st.L.length*5+2)) (.string ByteArray.empty)) rb B s i' (aA y st.L.length []) none (b:Int) ((c:Int)+1)):=M [];clear he M;have Ql:(st.L.length:Int)<((st.L.length+1:Nat):Int):=dg
         have zx:(st.L.length:Int)<(st.L.length:Int)+1:=dg;go_wp2_with fail;go_meet;exact fJ.err zn ⟨_,_,_,ze⟩
        ·go_wp2_with fail;go_meet;exact fJ.err zn ⟨_,_,_,HB⟩
       |ok q=>
        obtain⟨N,f3,a2⟩:=q;have hm:=za.out;rw[x]at hm;obtain⟨zH,UJ,QV,zJ⟩:=hm;have Pf:=tD x;have Z:Hid (RW m wd rb B s l y f3 (-1) ((c:Int)+1)):=by have:=HD.out;rw[x,zH]at this;exact this
        have U:Hid (R=iw s kn st.L.length (cD s f (st.L.length:Int) (c+1)) ⟨l,y,f3⟩):=by show _=_;rw[J.out,x,<-hG,UJ,QV]
        have Nu:c+1<=l:=dg;have zo:s.size<f+l:=dg;have zM:st.i<=l:=dg;have X8:st.i<l:=dg;clear x J za HD zJ;rcases(by omega:kn=0\/kn=1\/kn=2\/kn=3\/kn=4\/kn=5\/kn=6)with rfl|rfl|rfl|rfl|rfl|rfl|rfl;iterate 3
         ·have A:Hid (R=oS s (cD s f (st.L.length:Int) (c+1)) ⟨l,y,f3⟩):=U.out;have KC:Hid (Cw 146 #[Pq rb,Iq (st.L.length:Int)] wd λe w'=>e=Rw (.tuple #[])/\fJ m w' rb B s ((c:Int)+1) ⟨l,y,f3⟩ (oS s (cD s f (st.L.length:Int) (c+1)) ⟨l,y,f3⟩)):=by have:=LL rb B s f HN X st.L.length (c+1) ⟨l,y,f3⟩ m wd (by rw[G];exact Z) (by show st.L.length<_;rw[C];omega) Nu zo;rw[G]at this;exact this
          go_wp2_with fail;refine ag KC ?_;rintro e T ⟨rfl,he⟩;have HE:Hid (fJ m T rb B s ((c:Int)+1) st R):=by show fJ _ _ _ _ _ _ _ _;rw[A.out];exact he.mono zM (by show st.L.length<=_;rw[C];omega)
          clear he KC;go_wp2_with fail;go_meet;exact HE
        iterate 2
         ·have A:Hid (R=match cC s l 91 with
           |.error b=>.error b
           |.ok N=>match cD s f (st.L.length:Int) (c+1) ⟨N,y,f3⟩with
            |.error b=>.error b
            |.ok n=>match cC s n.i 93 with
             |.error b=>.error b
             |.ok i4=>.ok {n with i:=i4}):=U.out;have F:Hid (Cw 147 #[Pq rb,.int .u8 91] wd λe w'=>e=Rw (.tuple #[])/\RW m w' rb B s (am s l 91) y f3 (if aL s l 91 then-1 else(sk s l:Int)) ((c:Int)+1)):=by have:=eM 91 dg Z X;rw[xM,rf]at this;exact this
          have _2:=bG s l 91;by_cases hq:aL s l 91=true
          ·have XZ:l<am s l 91:=by rw[Ns hq];have:=du s l;omega
           have zb:Hid (R=match cD s f (st.L.length:Int) (c+1) ⟨am s l 91,y,f3⟩with
            |.error b=>.error b
            |.ok n=>match cC s n.i 93 with
             |.error b=>.error b
             |.ok i4=>.ok {n with i:=i4}):=by show _=_;rw[A.out];unfold cC;rw[if_pos hq]
           simp only[hq,if_true]at F;clear A hq;go_wp2_with fail;refine ag F ?_;rintro e T ⟨rfl,he⟩;have NC:Hid (Cw 67 #[Pq rb,Iq (st.L.length:Int)] T λe w'=>e=Rw (.tuple #[])/\fJ m w' rb B s ((c:Int)+1) ⟨am s l 91,y,f3⟩ (cD s f (st.L.length:Int) (c+1) ⟨am s l 91,y,f3⟩)):=by have:=HN (st.L.length:Int) (c+1) ⟨am s l 91,y,f3⟩ m T (by rw[G];exact he) (.inr ⟨dg,by show(st.L.length:Int)<(_:Nat);rw[C];omega⟩) (by show c+1<=am s l 91;omega) (by show s.size<f+am s l 91;omega);rw[G]at this;exact this
           clear he F;go_wp2_with fail;cases hp:cD s f (st.L.length:Int) (c+1) ⟨am s l 91,y,f3⟩with
           |error b=>
            have Q:Hid (R=.error b):=by show _=_;rw[zb.out,hp]
            rw[hp]at NC;clear hp zb;refine ag NC ?_;rintro e wg ⟨rfl,ig,Lg,gg,O⟩;have D:Hid (Cw 147 #[Pq rb,.int .u8 93] wg λe w'=>e=Rw (.tuple #[])/\RW m w' rb B s (mI s ig 93 b) Lg gg (b:Int) ((c:Int)+1)):=by have:=eM 93 dg O X;rw[ku]at this;exact this
            clear O NC;go_wp2_with fail;refine ag D ?_;rintro e wh ⟨rfl,hh⟩;have HH:=qH<|hh;clear hh D;go_wp2_with fail;go_meet;exact fJ.err Q ⟨_,_,_,HH⟩
           |ok n=>
            have Q:Hid (R=match cC s n.i 93 with
             |.error b=>.error b
             |.ok i4=>.ok {n with i:=i4}):=by show _=_;rw[zb.out,hp]
            rw[hp]at NC;clear hp zb;refine ag NC ?_;rintro e wg ⟨rfl,O,pg,lg⟩;have hpg:am s l 91<n.i:=pg;have _':st.L.length+1<=n.L.length:=by have:=lg;simp only at this;rw[C]at this;exact this
            have X0:=bG s n.i 93;have D:Hid (Cw 147 #[Pq rb,.int .u8 93] wg λe w'=>e=Rw (.tuple #[])/\RW m w' rb B s (am s n.i 93) n.L n.er (if aL s n.i 93 then-1 else(sk s n.i:Int)) ((c:Int)+1)):=by have:=eM 93 dg O X;rw[xM,rf]at this;exact this
            clear O NC pg lg;go_wp2_with fail;refine ag D ?_;rintro e wh ⟨rfl,hh⟩;have HH:Hid (fJ m wh rb B s ((c:Int)+1) st R):=by
             show fJ _ _ _ _ _ _ _ _;rw[Q.out];unfold cC;by_cases hm:aL s n.i 93=true;·rw[if_pos hm]at hh⊢;exact⟨hh,by show st.i<am s n.i 93;omega,by show st.L.length<=n.L.length;omega⟩
             ·rw[if_neg hm]at hh⊢;exact⟨_,_,_,hh⟩
            clear hh D;go_wp2_with fail;go_meet;exact HH
          ·have zb:Hid (R=.error (sk s l)):=by show _=_;rw[A.out];unfold cC;rw[if_neg hq]
           rw[if_neg hq]at F;clear A hq;go_wp2_with fail;refine ag F ?_;rintro e T ⟨rfl,he⟩;have HE:=qH<|he;clear he F;go_wp2_with fail;refine ag (xU rb B s _ y f3 (sk s l:Int) ((c:Int)+1) (st.L.length:Int) m T HE dg X) ?_;rintro e wg ⟨rfl,O⟩;have D:Hid (Cw 147 #[Pq rb,.int .u8 93] wg λe w'=>e=Rw (.tuple #[])/\RW m w' rb B s (mI s (sk s (am s l 91)) 93 (sk s l:Int)) y f3 (sk s l:Int) ((c:Int)+1)):=by have:=eM 93 dg O X;rw[ku]at this;exact this
           clear O HE;go_wp2_with fail;refine ag D ?_;rintro e wh ⟨rfl,hh⟩;have HH:=qH<|hh;clear hh D;go_wp2_with fail;go_meet;exact fJ.err zb ⟨_,_,_,HH⟩
        ·have A:Hid (R=match dU s l with
          |.error b=>.error b
          |.ok (N,t)=>.ok ⟨N,aA y st.L.length t,f3⟩):=U.out;have QC:=FZ Z X;cases hp:dU s l with
         |error b=>
          have Q:Hid (R=.error b):=by show _=_;rw[A.out,hp]
          rw[hp]at QC;have QH:Hid (Cw 148 #[Pq rb] wd λe w'=>e=Rw (.string ByteArray.empty)/\∃p,RW m w' rb B s p y f3 (b:Int) ((c:Int)+1)):=QC;clear hp A QC;go_wp2_with fail;refine ag QH ?_;rintro e T ⟨rfl,i',he⟩;obtain⟨gb,zE,c2,⟨u2,d2⟩,z2,K,zL,M⟩:=he.text (k:=st.L.length) (by rw[C];omega);rw[C]at c2 K;have ze:Hid (RW m (T.setCell (aj gb (st.L.length*5+2)) (.string ByteArray.empty)) rb B s i' (aA y st.L.length []) f3 (b:Int) ((c:Int)+1)):=M [];clear he M QH;have Ql:(st.L.length:Int)<((st.L.length+1:Nat):Int):=dg
          have zx:(st.L.length:Int)<(st.L.length:Int)+1:=dg;go_wp2_with fail;go_meet;exact fJ.err Q ⟨_,_,_,ze⟩
         |ok q=>
          obtain⟨N,tt⟩:=q;have Q:Hid (R=.ok ⟨N,aA y st.L.length tt,f3⟩):=by show _=_;rw[A.out,hp]
          have hqb:=DL zZ hp;rw[hp]at QC;have QH:Hid (Cw 148 #[Pq rb] wd λe w'=>e=Rw (.string ⟨tt.toArray⟩)/\RW m w' rb B s N y f3 (-1) ((c:Int)+1)):=QC;clear hp A QC;go_wp2_with fail;refine ag QH ?_;rintro e T ⟨rfl,he⟩;obtain⟨gb,zE,c2,⟨u2,d2⟩,z2,K,zL,M⟩:=he.text (k:=st.L.length) (by rw[C];omega);rw[C]at c2 K;have ze:=qH<|M tt;clear he M QH;have Ql:(st.L.length:Int)<((st.L.length+1:Nat):Int):=dg
          have zx:(st.L.length:Int)<(st.L.length:Int)+1:=dg;go_wp2_with fail;go_meet;have V:fJ m (T.setCell (aj gb (st.L.length*5+2)) (.string ⟨tt.toArray⟩)) rb B s ((c:Int)+1) st R:=by rw[Q.out];exact⟨ze,by show st.i<N;omega,by show st.L.length<=(aA y st.L.length tt).length;rw[jy,C];omega⟩
          exact V
        ·have A:Hid (R=.ok ⟨l,y,f3⟩):=U.out;have V:fJ m wd rb B s ((c:Int)+1) st R:=by rw[A.out];exact⟨Z,by show st.i<l;omega,by show st.L.length<=_;rw[C];omega⟩
         have Wi:=qH<|V;clear V;go_wp2_with fail;go_meet;exact Wi
      case rest=>
       have HO:=hcut;clear hcut;have HC:Hid (∃bad,(∃i L g,RW m wc rb B s i L g bad ((c:Int)+1))):=by
        have ho:=HO.out;cases R with
        |error b=>obtain⟨i,L,g,h⟩:=ho;exact⟨b,i,L,g,h⟩
        |ok JO=>exact⟨-1,_,_,_,ho.1⟩
       obtain⟨bz,iz,Lz,gz,hz⟩:=HC.out;obtain⟨nvz,ZC,ZX,_f,Z4,rz,Xn,dz⟩:=hz.mem;have c6:=rz.c6;have z6:=rz.fz 6;have zP:Hid (fJ m (wc.setCell (aj rb 6) (Iq (c:Int))) rb B s (c:Int) st R):=by
        have ho:=HO.out;cases R with
        |error b=>obtain⟨i,L,g,h⟩:=ho;exact⟨i,L,g,h.setD _⟩
        |ok JO=>exact⟨ho.1.setD _,ho.2⟩
       have e1:(c:Int)+1-1=(c:Int):=dg;clear rz Xn dz hz HC HO;go_wp2;go_end0;exact⟨rfl,zP⟩
