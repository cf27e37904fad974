import Derived.Test.YtehgehanbnkdiaaGreatDoorQ25
import Derived.RegionDies
set_option linter.all false
set_option maxRecDepth 100000
set_option maxHeartbeats 16000000
namespace Go.Proofs.YtehgehanbnkdiaaGreatDoor
open Go.RowKit Go.Proofs.Tryz
def Ig{i}(h:i<0):ku i=.tuple #[Iq 0,.bool false]:=by grind[ku]
def Ed{i}(h:¬i<0):ku i=.tuple #[Iq i,.bool true]:=by grind[ku]
def rY s i:cY s i<7:=by
 unfold cY;rcases gS (lj s i) cK 0 with h|h;.omega
 .have:cK.length=7:=rfl;omega
def mem_add{d w w'}{c ab B}{E}{s}{st}{L}{i}{a}(h:Mem d w c ab B E s st)(g:kO w w' c B s i (Sq ab 12 12) (dW E a) L)(j:ef s ⟨i,L,a⟩):Mem d w' c ab B E s ⟨i,L,a⟩:=by obtain⟨e,k,_,f,_⟩:=h;obtain⟨l,KV,p,n,b,_⟩:=g;exact⟨e.fr b,k.fr b e.rbB e.lo,j,f.trans b,l,KV,p,n⟩
def rp(m ab B:Nat)(E:zzi)(s:BY)(f:Nat)(zw:AH m ab B E s f)(hs:s.size<=100000):AH m ab B E s (f+1):=by
 intro up a st V w hM hup hd hf;have zD:=qH<|zw;have HM:=qH<|hM;obtain⟨H,kn,u,fr,nv,KV,pr,pn⟩:=hM;have D:=H.rbB;have zq:=H.lo;have zH:=u.il;have Yv:=u.ll;have HG:=qH<|u;obtain⟨zK,zE,rfl⟩:∃p c,nv=.slice p st.L.length c:=dt pn.nr.row.choose_spec;have CW:=lW m s st.i (Sq ab 12 12) (.slice zK st.L.length zE) (dW E st.er) w pr dg zH;obtain⟨at_,zh⟩:=af (sk s st.i);have zM:at_<=s.size:=by rw[<-zh];exact gu s st.i zH
 have Tq:st.i<=at_:=by rw[<-zh];exact fG s st.i
 obtain⟨k,hk⟩:=af (run am s at_);have zY:k<=s.size:=by rw[<-hk];exact gI _ _ _ zM
 obtain⟨t,ht⟩:=af (s.extract at_ k);have HK:Hid (cY s st.i=aB cK t 0):=qH<|by unfold cY lj;rw[zh,hk,ht]
 have HW:=qH<|λh=>by have:=nu h zH;rw[zh,hk]at this;exact this
 rw[zh,hk,ht]at CW;have zO:=qH<|CW;have HPN:=qH<|pn;have CK:Hid (∀W,Kn W->Cw 160 #[.string t] W λe w'=>e=Rw (ku (aB cK t 0))/\w'=W):=λW hW=>Ec t W _ _ _ _ _ _ _ (hW 0 dg) (hW 1 dg) (hW 2 dg) (hW 3 dg) (hW 4 dg) (hW 5 dg) (hW 6 dg);rw[<-HK.out]at CK;have Tw:=rY s st.i;have HP:Hid (aC s (f+1) up a st=if cY s st.i<0 then .error at_ else lS (Mz s (cY s st.i).toNat st.L.length k (gV st.er (iM st.L.length a) at_) (grown st.L ⟨(cY s st.i).toNat,aJ,[],[],up⟩)) λd=>lR s (cY s st.i).toNat st.L.length (aC s f (st.L.length:Int) (a+1)) d):=qH<|by unfold aC;rw[zh,hk]
 obtain⟨ki,zJ⟩:=af (cY s st.i);rw[zJ]at CK HP HW Tw;have HT:Hid (∀W,W.cell? (aq 7 0)=some (aT (E 2))->Cw 94 #[Iq (at_:Int)] W λe w'=>e=Rw (.iface 186 (.agg #[Iq (at_:Int),.iface 460 (.pointer (some (E 2)))]))/\w'=W):=λW he=>d_ _ W (E 2) he;clear CW zh hk ht HK zJ pr pn H kn u fr zw;by_cases Q:ki<0
 .have WJ:Hid (aC s (f+1) up a st=.error at_):=qH<|by rw[HP.out,if_pos Q]
  rw[Ig Q]at CK;clear HP HW;go_enter func92,ntmps92;go_wp2_with fail;refine Ut zO ?_;rintro w1 ⟨h1,g1⟩;have X:=qH<|Fr.grown g1 HM.1.le;have zk:=qH<|HM.1.fr X;have zA:=qH<|HM.2.1.fr X D zq;clear h1 g1;go_wp2_with fail;refine Ut (CK _ zA) ?_;rintro w2 hw;obtain rfl:=hw.symm;go_wp2_with fail;refine Ut (HT _ zk.g2) ?_;rintro w3 hw;obtain rfl:=hw.symm;go_wp2;refine⟨rfl,?_⟩;rw[WJ.out];exact⟨rfl,HM.2.2.2.1.trans X⟩
 .obtain⟨l,rfl⟩:∃q:Nat,ki=(q:Int):=⟨ki.toNat,dg⟩;have Yp:l<7:=dg;have XY:=HW Q;have Z:Hid (aC s (f+1) up a st=lS (Mz s l st.L.length k (gV st.er (iM st.L.length a) at_) (grown st.L ⟨l,aJ,[],[],up⟩)) λd=>lR s l st.L.length (aC s f (st.L.length:Int) (a+1)) d):=qH<|by rw[HP.out,if_neg Q];simp only[iO]
  rw[Ed Q]at CK;have hL:st.L.length<=100000:=dg;obtain⟨L1,zo⟩:=af (grown st.L ⟨l,aJ,[],[],up⟩);have zL:L1.length=st.L.length+1:=by rw[<-zo];exact cN _ _
  obtain⟨I,zu⟩:=af (gV st.er (iM st.L.length a) at_);have zN:up<st.L.length:=dg;have zm:Hid (ef s ⟨k,L1,I⟩):=⟨zY,rn,λj=>by show(ae L1 j).kids.length<=L1.length;rw[zL,<-zo];exact pw _ _ rfl zN HG.kl j⟩;have XO:L1.length<=k:=dg;have zB:Hid ((ae L1 st.L.length).kind=l):=by
   show _=_;rw[<-zo];by_cases hu:up<0;.grind[grown,bS]
   .rw[gT st.L _ up.toNat rn dg,aD _ dg,bS]
  rw[zo,zu]at Z;clear HP HW Q;go_enter func92,ntmps92;go_wp2_with fail;refine Ut zO ?_;rintro w1 ⟨h1,g1⟩;have X:=qH<|Fr.grown g1 HM.1.le;have zk:=qH<|HM.1.fr X;have zA:=qH<|HM.2.1.fr X D zq;have zU:=qH<|h1;have zT:=qH<|HPN.up (Up.grown g1 D);clear h1 g1;go_wp2_with fail;refine Ut (CK _ zA) ?_;rintro w2 hw;obtain rfl:=hw.symm;have CR:Hid (Cw 162 #[Pq m,Iq (a:Int)] w1 λe w'=>e=Rw (PX E (iM st.L.length a))/\w'=w1):=by have:=xb m s k (Sq ab 12 12) (dW E st.er) zK st.L.length zE a (E 3) (E 4) w1 zU zk.g3 zk.g4;rw[MO]at this;exact this
  go_wp2_with fail;refine Ut CR ?_;rintro w3 hw;obtain rfl:=hw.symm;have CP:Hid (Cw 161 #[Pq m,PX E (iM st.L.length a),Iq (at_:Int)] w1 λe w'=>e=Rw (.tuple #[])/\PR w' m s k (Sq ab 12 12) (.slice zK st.L.length zE) (dW E I)/\w1.grownBy w' (some m)):=by have:=keep_all m s k (Sq ab 12 12) (.slice zK st.L.length zE) E st.er (iM st.L.length a) at_ w1 zU;rw[zu]at this;exact this
  clear zu;go_wp2_with fail;refine Ut CP ?_;rintro w4 ⟨h4,g4⟩;have zy:=qH<|X.trans (Fr.grown g4 zk.le);have zl:=qH<|HM.1.fr zy;have UM:Hid (Mem V w4 m ab B E s ⟨k,st.L,I⟩):=⟨zl,HM.2.1.fr zy D zq,⟨zY,rn,HG.kl⟩,HM.2.2.2.1.trans zy,_,KV,h4,zT.up (Up.grown g4 D)⟩;have CA:Hid (Cw 163 #[Pq m,Iq (l:Int),Iq up] w4 λe w'=>e=Rw (Iq (st.L.length:Int))/\kO w4 w' m B s k (Sq ab 12 12) (dW E I) L1):=by have:=uD m ab B s k _ (dW E I) st.L KV l up w4 h4 (zT.up (Up.grown g4 D)) zl.tab D zl.abB zl.ne zl.le hL hup (λj ks hj Yq=>by rw[<-Yq];have:=HG.kl j;omega);rw[zo]at this;exact this
  clear h4 g4 CP CR X zk zA zU zT zo;go_wp2_with fail;refine Ut CA ?_;rintro w5 h5;have zC:=qH<|mem_add UM h5 zm;obtain⟨g,zv⟩:=af st.L.length;rw[zv]at Z zL zB hL;rw[zv];have zJ:k=(⟨k,L1,I⟩:PS).i:=rfl;have CT:Hid (Cw 164 #[Pq m,.int .u8 123] w5 λe w'=>e=Rw (.bool (aK s k 123))/\Mem V w' m ab B E s ⟨an s k 123,L1,I⟩):=mK (st:=⟨k,L1,I⟩) 123 zC dg dg;have Vm:=cP s k 123;have zG:=dH (s:=s) (i:=k) (c:=123) dg zY;have Vf:a+1<=k:=dg;have Vh:s.size<f+k:=dg;clear h5 UM CA zl zy zv zm HM HG HPN zO CK HT hup zN hd hf zH Yv zM Tq zJ;by_cases hq:aK s k 123=true;.obtain⟨Th,ZQ,zV,XI,nv5,Z',ZY,ZX⟩:=zC.out;rw[hq]at CT;go_wp2_with fail;refine Ut CT ?_;rintro w6 h6;clear Th ZQ zV XI ZY ZX;have Y:=qH<|h6;obtain⟨H,kn,u,fr,nv,zn,pr,pn⟩:=h6;obtain⟨bl,T,rfl,zF,zj,_,_⟩:=pn.nr.form rn;have CA:=qH<|readAttributes_any m ab B E s (an s k 123) I L1 zn bl T g l w6 H pr pn dg dg zB Yp dg zG;have c3:=pr.c3;have zI:(g:Int)<(L1.length:Int):=dg;clear H kn u fr pr pn CT zC;cases P:dh s l g (s.size+1) (an s k 123) I L1 []with
   |error b=>
    have o:Hid (aC s (f+1) up a st=.error b):=qH<|by rw[Z.out];unfold Mz;rw[if_pos hq,P];rfl
    rw[P]at CA;clear P Z hq;go_wp2_with fail;refine CA.mono ?_;rintro e w7 ⟨f7,rfl⟩;refine⟨rfl,?_⟩;rw[o.out];exact⟨rfl,Y.2.2.2.1.trans (f7.fr Y.1.le zF)⟩
   |ok r=>
    obtain⟨i2,E8,L2⟩:=r;have n:Hid (aC s (f+1) up a st=lR s l g (aC s f (g:Int) (a+1)) ⟨i2,L2,E8⟩):=qH<|by rw[Z.out];unfold Mz;rw[if_pos hq,P];rfl
    obtain⟨b1,b2,b3,b4⟩:=oZ _ _ _ _ _ _ _ _ zG P;rw[P]at CA;clear P Z hq;go_wp2_with fail;refine CA.mono ?_;rintro e w7 ⟨f7,rfl,N,n7,l7⟩;have O:=f7.fr Y.1.le zF;obtain⟨d,y⟩:∃z:PS,⟨i2,L2,E8⟩=z:=⟨_,rfl⟩;have zZ:a+1<=d.i:=by rw[<-y];show a+1<=i2;omega
    have Ui:s.size<f+d.i:=by rw[<-y];show s.size<f+i2;omega
    have U:g<d.L.length:=by rw[<-y];show g<L2.length;omega
    have x:Hid (Mem V w7 m ab B E s d):=by
     rw[<-y];refine⟨Y.1.fr O,Y.2.1.fr O D zq,⟨b2,?_,λj=>?_⟩,Y.2.2.2.1.trans O,_,zn,N,n7⟩;.grind
     .show(ae L2 j).kids.length<=L2.length;rw[b4,b3];exact Y.2.2.1.kl j
    rw[y]at n;clear N n7 f7 O CA y c3 Vm zG Vf Vh zB Y;have zX:l=0\/l=1\/l=2\/l=3\/l=4\/l=5\/l=6:=dg;have zt:((a+1:Nat):Int)=(a:Int)+1:=dg;have Ye:(a:Int)+1<=1000000:=by have:=x.2.2.1.il;omega
    have CL:Hid (Cw 168 #[Pq m,Iq (g:Int),Iq ((a:Int)+1)] w7 λe w'=>di V w' e m ab B E s (fm s (aC s f (g:Int) (a+1)) d)):=by have:=nG m ab B E s f zD dg g (a+1) d V w7 x U zZ Ui;rw[zt]at this;exact this
    rcases zX with rfl|rfl|rfl|rfl|rfl|rfl|rfl;iterate 3
     .have v:Hid (aC s (f+1) up a st=fm s (aC s f (g:Int) (a+1)) d):=qH<|by rw[n.out];rfl
      obtain⟨R,hR⟩:=af (fm s (aC s f (g:Int) (a+1)) d);rw[hR]at CL v;clear hR n;go_wp2_with fail;refine CL.mono ?_;cases R with
      |error b=>rintro e J ⟨rfl,f7⟩;refine⟨rfl,?_⟩;rw[v.out];exact⟨rfl,f7⟩
      |ok C=>rintro e J ⟨rfl,N⟩;have zQ:=qH<|N;clear N CL;go_wp2;go_end0;show di _ _ _ _ _ _ _ _ _;rw[v.out];exact⟨rfl,zQ⟩
    iterate 2
     .by_cases hb:aK s d.i 91=true
      .have K:Hid (Cw 167 #[Pq m,.int .u8 91] w7 λe w'=>di V w' e m ab B E s (dd s d 91)):=dE 91 x dg dg;have e1:dd s d 91=.ok {d with i:=an s d.i 91}:=by unfold dd;rw[if_pos hb]
       rw[e1]at K;obtain⟨C,F⟩:∃z:PS,{d with i:=an s d.i 91}=z:=⟨_,rfl⟩;have z1:d.i<=C.i:=by rw[<-F];exact cP _ _ _
       have z2:C.L.length=d.L.length:=by rw[<-F]
       rw[F]at K;have v:Hid (∀r,aC s f (g:Int) (a+1) C=r->aC s (f+1) up a st=lS r λM=>dd s M 93):=λr hr=>by rw[n.out];show mO s (aC s f (g:Int) (a+1)) d=_;grind[mO]
       clear e1 F hb CL n;go_wp2_with fail;refine Ut K ?_;rintro J N;have CN:Hid (Cw 92 #[Pq m,Iq (g:Int),Iq ((a:Int)+1)] J λe w'=>di V w' e m ab B E s (aC s f (g:Int) (a+1) C)):=by have:=zD (g:Int) (a+1) C V J N (.inr ⟨dg,dg⟩) dg dg;rw[zt]at this;exact this
       clear N K;cases P:aC s f (g:Int) (a+1) C with
       |error b=>have o:Hid (aC s (f+1) up a st=.error b):=v _ P;rw[P]at CN;clear P v;go_wp2_with fail;refine Ut CN ?_;rintro x8 f8;refine⟨rfl,?_⟩;rw[o.out];exact⟨rfl,f8⟩
       |ok M=>
        have o:Hid (aC s (f+1) up a st=dd s M 93):=v _ P;rw[P]at CN;clear P v;go_wp2_with fail;refine Ut CN ?_;rintro x8 h8;have K:Hid (Cw 167 #[Pq m,.int .u8 93] x8 λe w'=>di V w' e m ab B E s (dd s M 93)):=dE 93 h8 dg dg;obtain⟨R,hR⟩:=af (dd s M 93);rw[hR]at K o;clear h8 CN hR;go_wp2_with fail;refine K.mono ?_;cases R with
        |error b=>rintro e x9 ⟨rfl,f9⟩;refine⟨rfl,?_⟩;rw[o.out];exact⟨rfl,f9⟩
        |ok Z0=>rintro e x9 ⟨rfl,h9⟩;have zR:=qH<|h9;clear h9 K;go_wp2;go_end0;show di _ _ _ _ _ _ _ _ _;rw[o.out];exact⟨rfl,zR⟩
      .have K:Hid (Cw 167 #[Pq m,.int .u8 91] w7 λe w'=>di V w' e m ab B E s (dd s d 91)):=dE 91 x dg dg;have e1:dd s d 91=.error (sk s d.i):=by unfold dd;rw[if_neg hb]
       rw[e1]at K;have o:Hid (aC s (f+1) up a st=.error (sk s d.i)):=qH<|by rw[n.out];show mO s (aC s f (g:Int) (a+1)) d=_;unfold mO;rw[if_neg hb]
       clear e1 hb CL n;go_wp2_with fail;refine Ut K ?_;rintro J f7;refine⟨rfl,?_⟩;rw[o.out];exact⟨rfl,f7⟩
    .obtain⟨H,kn,u,fr,nv,zn,pr,pn⟩:=x.out;obtain⟨bl,T,rfl,zF,zj,_,_⟩:=pn.nr.form dg;have G:=qH<|H;have S:=qH<|pr;have HPN:=qH<|pn;have CS:Hid (∀W,PR W m s d.i (Sq ab 12 12) (Sq bl d.L.length T) (dW E d.er)->W.cell? (aq 7 0)=some (aT (E 2))->Cw 166 #[Pq m] W λe w'=>Kj W w' e m s (Sq ab 12 12) (Sq bl d.L.length T) (dW E d.er) (E 2) (fo s d.i)):=λW h1 h2=>jl m s d.i _ _ _ (E 2) W h1 dg u.il dg h2;have zm:=qH<|u;clear H kn u fr pr pn CL;cases A:fo s d.i with
     |error b=>
      have o:Hid (aC s (f+1) up a st=.error b):=qH<|by rw[n.out];show f_ s g d=_;unfold f_;rw[A]
      rw[A]at CS;clear A n;have c3:=S.c3;have zI:(g:Int)<(d.L.length:Int):=dg;go_wp2_with fail;go_region_dies;all_goals refine(CS _ (S.drewN 1) G.g2).mono ?_;rintro e J ⟨g7,rfl⟩;refine⟨rfl,?_⟩;rw[o.out];exact⟨rfl,x.2.2.2.1.trans ((Fr.drewN B m w7 1).trans (Fr.grown g7 G.le))⟩
     |ok r=>
      obtain⟨i2,tt⟩:=r;have o:Hid (aC s (f+1) up a st=.ok {d with i:=i2,L:=ao d.L g tt}):=qH<|by rw[n.out];show f_ s g d=_;unfold f_;rw[A]
      have zP:=qH<|(qr (s:=s) (idx:=g) zm (by unfold f_;rw[A])).good;rw[A]at CS;clear A n;have c3:=S.c3;have zI:(g:Int)<(d.L.length:Int):=dg;have ce:=HPN.nr.cells bl rfl g U 13 _ (BX (HPN.len g U));obtain⟨ov,zx⟩:∃z:BY,⟨(ae d.L g).text.toArray⟩=z:=⟨_,rfl⟩;rw[zx]at ce;have cf:w7.frozen? (aq bl (g*16+13))=false:=HPN.nr.frz rfl _;have X':bl≠m:=dg;clear zx;go_wp2_with fail;go_region_with(first|(go_at_call 166;refine(CS _ (S.drewN 1) G.g2).mono ?_;rintro e J ⟨g7,rfl,N⟩;have zr:=qH<|N;have ze:=qH<|g7;have k3:=N.c3;have zi:J.heap[bl]?=w7.heap[bl]?:=g7.block bl zj rn;have kc:=(aQ zi).trans ce;have kf:=(kE zi).trans cf;clear N g7));all_goals
       have zS:Hid (Mem V (J.setCell (aq bl (g*16+13)) (.string ⟨tt.toArray⟩)) m ab B E s {d with i:=i2,L:=ao d.L g tt}):=by
        have O:=(Fr.drewN B m w7 1).trans (Fr.grown ze G.le);have zg:Fr B m w7 (J.setCell (aq bl (g*16+13)) (.string ⟨tt.toArray⟩)):=O.trans (Fr.own (cM J bl _ _) (aA G.le O.size) (λq e=>rn));have Um:=(HPN.up (Up.drewN B w7 1)).up (Up.grown ze D);have Un:=Um.setText U tt;have Zp:(ao d.L g tt).length=d.L.length:=by unfold ao;simp
        refine⟨G.fr zg,x.2.1.fr zg D zq,zP,x.2.2.2.1.trans zg,Sq bl d.L.length T,zn,PR.far zr (cM J bl _ _) (λq e=>rn) D,?_⟩;exact Un
       clear k3 zi kc kf ze zr ce cf c3;go_wp2;go_end0;show di _ _ _ _ _ _ _ _ _;rw[o.out];exact⟨rfl,zS⟩
    .have v:Hid (aC s (f+1) up a st=.ok d):=qH<|by rw[n.out];rfl
     clear CL n;go_wp2;go_end0;show di _ _ _ _ _ _ _ _ _;rw[v.out];exact⟨rfl,x⟩
  .have n:Hid (aC s (f+1) up a st=lR s l g (aC s f (g:Int) (a+1)) ⟨an s k 123,L1,I⟩):=qH<|by rw[Z.out];unfold Mz;rw[if_neg hq];rfl
   rw[show aK s k 123=false by grind]at CT;clear hq Z;go_wp2_with fail;refine Ut CT ?_;rintro w6 h6;obtain⟨d,y⟩:∃z:PS,⟨an s k 123,L1,I⟩=z:=⟨_,rfl⟩;have zZ:a+1<=d.i:=by rw[<-y];show a+1<=an s k 123;omega
   have Ui:s.size<f+d.i:=by rw[<-y];show s.size<f+an s k 123;omega
   have U:g<d.L.length:=by rw[<-y];show g<L1.length;omega
   rw[y]at h6 n;have x:=qH<|h6;clear h6 CT y zC Vm zG Vf Vh zB;have zX:l=0\/l=1\/l=2\/l=3\/l=4\/l=5\/l=6:=dg;have zt:((a+1:Nat):Int)=(a:Int)+1:=dg;have Ye:(a:Int)+1<=1000000:=by have:=x.2.2.1.il;omega
   have CL:Hid (Cw 168 #[Pq m,Iq (g:Int),Iq ((a:Int)+1)] w6 λe w'=>di V w' e m ab B E s (fm s (aC s f (g:Int) (a+1)) d)):=by have:=nG m ab B E s f zD dg g (a+1) d V w6 x U zZ Ui;rw[zt]at this;exact this
   rcases zX with rfl|rfl|rfl|rfl|rfl|rfl|rfl;iterate 3
    .have v:Hid (aC s (f+1) up a st=fm s (aC s f (g:Int) (a+1)) d):=qH<|by rw[n.out];rfl
     obtain⟨R,hR⟩:=af (fm s (aC s f (g:Int) (a+1)) d);rw[hR]at CL v;clear hR n;go_wp2_with fail;refine CL.mono ?_;cases R with
     |error b=>rintro e J ⟨rfl,f7⟩;refine⟨rfl,?_⟩;rw[v.out];exact⟨rfl,f7⟩
     |ok C=>rintro e J ⟨rfl,N⟩;have zQ:=qH<|N;clear N CL;go_wp2;go_end0;show di _ _ _ _ _ _ _ _ _;rw[v.out];exact⟨rfl,zQ⟩
   iterate 2
    .by_cases hb:aK s d.i 91=true
     .have K:Hid (Cw 167 #[Pq m,.int .u8 91] w6 λe w'=>di V w' e m ab B E s (dd s d 91)):=dE 91 x dg dg;have e1:dd s d 91=.ok {d with i:=an s d.i 91}:=by unfold dd;rw[if_pos hb]
      rw[e1]at K;obtain⟨C,F⟩:∃z:PS,{d with i:=an s d.i 91}=z:=⟨_,rfl⟩;have z1:d.i<=C.i:=by rw[<-F];exact cP _ _ _
      have z2:C.L.length=d.L.length:=by rw[<-F]
      rw[F]at K;have v:Hid (∀r,aC s f (g:Int) (a+1) C=r->aC s (f+1) up a st=lS r λM=>dd s M 93):=λr hr=>by rw[n.out];show mO s (aC s f (g:Int) (a+1)) d=_;grind[mO]
      clear e1 F hb CL n;go_wp2_with fail;refine Ut K ?_;rintro J N;have CN:Hid (Cw 92 #[Pq m,Iq (g:Int),Iq ((a:Int)+1)] J λe w'=>di V w' e m ab B E s (aC s f (g:Int) (a+1) C)):=by have:=zD (g:Int) (a+1) C V J N (.inr ⟨dg,dg⟩) dg dg;rw[zt]at this;exact this
      clear N K;cases P:aC s f (g:Int) (a+1) C with
      |error b=>have o:Hid (aC s (f+1) up a st=.error b):=v _ P;rw[P]at CN;clear P v;go_wp2_with fail;refine Ut CN ?_;rintro x8 f8;refine⟨rfl,?_⟩;rw[o.out];exact⟨rfl,f8⟩
      |ok M=>
       have o:Hid (aC s (f+1) up a st=dd s M 93):=v _ P;rw[P]at CN;clear P v;go_wp2_with fail;refine Ut CN ?_;rintro x8 h8;have K:Hid (Cw 167 #[Pq m,.int .u8 93] x8 λe w'=>di V w' e m ab B E s (dd s M 93)):=dE 93 h8 dg dg;obtain⟨R,hR⟩:=af (dd s M 93);rw[hR]at K o;clear h8 CN hR;go_wp2_with fail;refine K.mono ?_;cases R with
       |error b=>rintro e x9 ⟨rfl,f9⟩;refine⟨rfl,?_⟩;rw[o.out];exact⟨rfl,f9⟩
       |ok Z0=>rintro e x9 ⟨rfl,h9⟩;have zR:=qH<|h9;clear h9 K;go_wp2;go_end0;show di _ _ _ _ _ _ _ _ _;rw[o.out];exact⟨rfl,zR⟩
     .have K:Hid (Cw 167 #[Pq m,.int .u8 91] w6 λe w'=>di V w' e m ab B E s (dd s d 91)):=dE 91 x dg dg;have e1:dd s d 91=.error (sk s d.i):=by unfold dd;rw[if_neg hb]
      rw[e1]at K;have o:Hid (aC s (f+1) up a st=.error (sk s d.i)):=qH<|by rw[n.out];show mO s (aC s f (g:Int) (a+1)) d=_;unfold mO;rw[if_neg hb]
      clear e1 hb CL n;go_wp2_with fail;refine Ut K ?_;rintro J f7;refine⟨rfl,?_⟩;rw[o.out];exact⟨rfl,f7⟩
   .obtain⟨H,kn,u,fr,nv,zn,pr,pn⟩:=x.out;obtain⟨bl,T,rfl,zF,zj,_,_⟩:=pn.nr.form dg;have G:=qH<|H;have S:=qH<|pr;have HPN:=qH<|pn;have CS:Hid (∀W,PR W m s d.i (Sq ab 12 12) (Sq bl d.L.length T) (dW E d.er)->W.cell? (aq 7 0)=some (aT (E 2))->Cw 166 #[Pq m] W λe w'=>Kj W w' e m s (Sq ab 12 12) (Sq bl d.L.length T) (dW E d.er) (E 2) (fo s d.i)):=λW h1 h2=>jl m s d.i _ _ _ (E 2) W h1 dg u.il dg h2;have zm:=qH<|u;clear H kn u fr pr pn CL;cases A:fo s d.i with
    |error b=>
     have o:Hid (aC s (f+1) up a st=.error b):=qH<|by rw[n.out];show f_ s g d=_;unfold f_;rw[A]
     rw[A]at CS;clear A n;have c3:=S.c3;have zI:(g:Int)<(d.L.length:Int):=dg;go_wp2_with fail;go_region_dies;all_goals refine(CS _ (S.drewN 1) G.g2).mono ?_;rintro e J ⟨g7,rfl⟩;refine⟨rfl,?_⟩;rw[o.out];exact⟨rfl,x.2.2.2.1.trans ((Fr.drewN B m w6 1).trans (Fr.grown g7 G.le))⟩
    |ok r=>
     obtain⟨i2,tt⟩:=r;have o:Hid (aC s (f+1) up a st=.ok {d with i:=i2,L:=ao d.L g tt}):=qH<|by rw[n.out];show f_ s g d=_;unfold f_;rw[A]
     have zP:=qH<|(qr (s:=s) (idx:=g) zm (by unfold f_;rw[A])).good;rw[A]at CS;clear A n;have c3:=S.c3;have zI:(g:Int)<(d.L.length:Int):=dg;have ce:=HPN.nr.cells bl rfl g U 13 _ (BX (HPN.len g U));obtain⟨ov,zx⟩:∃z:BY,⟨(ae d.L g).text.toArray⟩=z:=⟨_,rfl⟩;rw[zx]at ce;have cf:w6.frozen? (aq bl (g*16+13))=false:=HPN.nr.frz rfl _;have X':bl≠m:=dg;clear zx;go_wp2_with fail;go_region_with(first|(go_at_call 166;refine(CS _ (S.drewN 1) G.g2).mono ?_;rintro e J ⟨g7,rfl,N⟩;have zr:=qH<|N;have ze:=qH<|g7;have k3:=N.c3;have zi:J.heap[bl]?=w6.heap[bl]?:=g7.block bl zj rn;have kc:=(aQ zi).trans ce;have kf:=(kE zi).trans cf;clear N g7));all_goals
      have zS:Hid (Mem V (J.setCell (aq bl (g*16+13)) (.string ⟨tt.toArray⟩)) m ab B E s {d with i:=i2,L:=ao d.L g tt}):=by
       have O:=(Fr.drewN B m w6 1).trans (Fr.grown ze G.le);have zg:Fr B m w6 (J.setCell (aq bl (g*16+13)) (.string ⟨tt.toArray⟩)):=O.trans (Fr.own (cM J bl _ _) (aA G.le O.size) (λq e=>rn));have Um:=(HPN.up (Up.drewN B w6 1)).up (Up.grown ze D);have Un:=Um.setText U tt;have Zp:(ao d.L g tt).length=d.L.length:=by unfold ao;simp
       refine⟨G.fr zg,x.2.1.fr zg D zq,zP,x.2.2.2.1.trans zg,Sq bl d.L.length T,zn,PR.far zr (cM J bl _ _) (λq e=>rn) D,?_⟩;exact Un
      clear k3 zi kc kf ze zr ce cf c3;go_wp2;go_end0;show di _ _ _ _ _ _ _ _ _;rw[o.out];exact⟨rfl,zS⟩
   .have v:Hid (aC s (f+1) up a st=.ok d):=qH<|by rw[n.out];rfl
    clear CL n;go_wp2;go_end0;show di _ _ _ _ _ _ _ _ _;rw[v.out];exact⟨rfl,x⟩
def lV b ab B E s(c:s.size<=100000):∀f,AH b ab B E s f
 |0=>λup a st g w h d hd e=>absurd h.2.2.1.il dg
 |f+1=>rp b ab B E s f (lV b ab B E s c f) c
def wM(s:BY)(st:PS):Except (Option (Nat×Nat)) (List Nd):=if sk s st.i<s.size then .error (some (2,sk s st.i))else match st.er with
 |some f=>.error (some f)
 |none=>.ok st.L
def N6(s:BY):Except Nat PS->Except (Option (Nat×Nat)) (List Nd)
 |.error b=>.error (some (2,b))
 |.ok st=>wM s st
def bv(s:BY):Except (Option (Nat×Nat)) (List Nd):=if 4000<s.size then .error none else N6 s (aC s (s.size+1) (-1) 0 ⟨0,[],none⟩)
def pv(E:zzi):Option (Nat×Nat)->Fd
 |none=>aT (E 1)
 |some (c,p)=>cB (p:Int) (aT (E c))
def ND(w w':AT)(e:Ending)(E:zzi)(r:Except (Option (Nat×Nat)) (List Nd)):Prop:=Bq w w'/\match r with
 |.error x=>e=.panicked [{v:=pv E x,recovered:=false}]
 |.ok L=>∃nv KV,e=Rw nv/\PN w' w.heap.size nv L KV
structure qK(W:AT)(E:zzi):Prop where
 sz:9<=W.heap.size
 kn:Kn W
 g1:W.cell? (aq 0 0)=some (aT (E 1))
 g2:W.cell? (aq 7 0)=some (aT (E 2))
 g3:W.cell? (aq 1 0)=some (aT (E 3))
 g4:W.cell? (aq 2 0)=some (aT (E 4))
 g5:W.cell? (aq 3 0)=some (aT (E 5))
 g6:W.cell? (aq 4 0)=some (aT (E 6))
 g7:W.cell? (aq 5 0)=some (aT (E 7))
def Py(W:AT)s a E:PR (W.alloc (.cells #[.string s,Iq 0,a,.slice none 0 0,.nilIface] 192)) W.heap.size s 0 a (.slice none 0 0) (dW E none):=
 ⟨At,by simp_all,by simp_all,by simp_all,by simp_all,by rw[World.cell?_alloc_at _ _ _ _ rfl];rfl,λj=>frozen_of_row _ _ _ _ _ (heap_alloc_new _ _)⟩
def PN.base{W}{B d}{k}{L}{KV}(h:PN W B k L KV)(m:d<=B):PN W d k L KV:=by
 obtain⟨q,p⟩:=h.nr.row;have own:∀{e:TypeId} {size n:Nat} {v:Fd} {i:List Fd},W.ownsRow B e size v n i->W.ownsRow d e size v n i:=fun{e size n v i} h=>⟨h.1,by
  rcases h.2 with l|⟨g,cap,f,a,b,c⟩;.exact .inl l
  .exact .inr ⟨g,cap,f,a,aA m b,c⟩⟩;exact⟨⟨⟨q,own p⟩,h.nr.cells,h.nr.len,λj o=>own (h.nr.kids j o),h.nr.sep⟩,h.len⟩
def readTree_any(s:BY)(E:zzi)(w:AT)(hG:qK w E):
 Calls prog 57 #[.string s] w λe w'=>ND w w' e E (bv s):=by
 by_cases t:4000<s.size
 .have N:Hid (bv s=.error none):=qH<|by unfold bv;rw[if_pos t]
  have zm:(4000:Int)<(s.size:Int):=dg;have g1:w.cell? (aq 0 0)=some (.iface 460 (.pointer (some (E 1)))):=hG.g1;clear hG;go_enter func57,ntmps57;go_wp2;refine⟨rfl,?_⟩;rw[N.out];exact⟨Ok,rfl⟩
 .have zm:¬(4000:Int)<(s.size:Int):=dg;have zr:(s.size:Int)<=4000:=dg;have d:=qH<|hG;have N:Hid (bv s=N6 s (aC s (s.size+1) (-1) 0 ⟨0,[],none⟩)):=qH<|by unfold bv;rw[if_neg t]
  obtain⟨A,G⟩:=af w.heap.size;have CA:Hid (Calls prog 91 #[] w λe w'=>e=.returned (Sq A 12 12)/\w'=w.alloc (.cells gM 259)):=by have:=oW w;rw[G]at this;exact this
  have HT:Hid (Fq (w.alloc (.cells gM 259)) A):=by have:=M9 w;rw[G]at this;exact this
  have C:Hid (Below A w (w.alloc (.cells gM 259))):=by show Below _ _ _;rw[<-G];exact No
  obtain⟨w1,M⟩:=af (w.alloc (.cells gM 259));have K:w1.heap.size=A+1:=by rw[<-M,ai,G]
  rw[M]at CA HT C;have R:=qH<|G;have zn:=hG.sz;rw[G]at zn;clear hG M G;go_enter func57,ntmps57;go_wp2_with fail;refine Ut CA ?_;rintro zu hw;obtain rfl:=hw.symm;go_wp2_with fail;obtain⟨h,m⟩:=af (w1.alloc (.cells #[.string s,Iq 0,Sq A 12 12,.slice none 0 0,.nilIface] 192));have zt:h.heap.size=A+2:=by rw[<-m,ai,K]
  have D:Hid (Below A w h):=by rw[<-m];exact C.alloc dg _
  have zj:Hid (PR h (A+1) s 0 (Sq A 12 12) (.slice none 0 0) (dW E none)):=by rw[<-m,<-K];exact Py _ _ _ _
  have zk:Hid (Fq h A):=by have:=HT.fr (Fr.below (B:=A+1) (r:=A+1) ((ac w1.heap.size w1).alloc LE (.cells #[.string s,Iq 0,Sq A 12 12,.slice none 0 0,.nilIface] 192)) dg) dg dg;rw[m]at this;exact this
  have H:∀(g:Nat) v,g<9->w.cell? (aq g 0)=some v->h.cell? (aq g 0)=some v:=λg v hg e=>(D.cell (p:=(aq g 0)) rn).trans e;have zg:Hid (Nn h (A+1) A (A+2) E):=⟨zk,dg,dg,dg,dg,dg,H _ _ (by decide) d.g2,H _ _ (by decide) d.g3,H _ _ (by decide) d.g4,H _ _ (by decide) d.g5,H _ _ (by decide) d.g6,H _ _ (by decide) d.g7⟩;have zh:Hid (Kn h):=λj hj=>(D.cell (p:=(aq 8 j)) rn).trans (d.kn j hj);have HM:Hid (Mem h h (A+1) A (A+2) E s ⟨0,[],none⟩):=⟨zg,zh,⟨LT,LE,λj=>LT⟩,Fr.refl _ _ _,_,λ_=>.nilFunc,zj,⟨NR.nothing _ _ _ _ _ _ _,λj hj=>absurd hj rn⟩⟩;have Q:Hid (Calls prog 92 #[Pq (A+1),Iq (-1),Iq 0] h λe w'=>di h w' e (A+1) A (A+2) E s (aC s (s.size+1) (-1) 0 ⟨0,[],none⟩)):=lV (A+1) A (A+2) E s dg (s.size+1) (-1) 0 ⟨0,[],none⟩ h h HM (.inl rfl) LE dg;have u:Hid (∀w',Fr (A+2) (A+1) h w'->Below w.heap.size w w'):=λw' f=>by rw[R.out];exact D.trans ⟨f.os,f.tape,f.output,f.size,λk hk=>f.block k dg dg⟩
  have V:Hid (∀W,W.cell? (aq 7 0)=some (aT (E 2))->∀(q:Nat),Calls prog 94 #[Iq (q:Int)] W λe w'=>e=.returned (.iface 186 (.agg #[Iq (q:Int),.iface 460 (.pointer (some (E 2)))]))/\w'=W):=λW he q=>d_ _ W (E 2) he;rw[m];clear m H HT C CA K;cases O:aC s (s.size+1) (-1) 0 ⟨0,[],none⟩with
  |error b=>
   have y:Hid (bv s=.error (some (2,b))):=qH<|by rw[N.out,O];rfl
   rw[O]at Q;clear O N;refine Ut Q ?_;rintro w3 f3;refine⟨rfl,?_⟩;rw[y.out];exact⟨u _ f3,rfl⟩
  |ok st=>
   have y:Hid (bv s=wM s st):=qH<|by rw[N.out,O];rfl
   rw[O]at Q;clear O N;refine Ut Q ?_;rintro w3 ⟨z,zo,o,U,nv,KV,Y,X⟩;have CB:=qH<|skipBlanks_any (A+1) s st.i _ nv _ w3 Y dg o.il;have x:=qH<|z;have S:=qH<|U;have T:=qH<|X;obtain⟨P,I⟩:=af (sk s st.i);have a:Hid (bv s=if P<s.size then .error (some (2,P))else match st.er with
    |some f=>.error (some f)
    |none=>.ok st.L):=qH<|by rw[y.out];unfold wM;rw[I]
   rw[I]at CB;clear z zo o U Y X Q I y;go_wp2_with fail;refine Ut CB ?_;rintro w4 ⟨h4,Z⟩;have F:=qH<|S.trans (Fr.grown Z x.le);have zi:=qH<|T.up (Up.grown Z dg);have ze:=qH<|x.fr (Fr.grown Z x.le);have c1:=h4.c1;have c3:=h4.c3;have c4:=h4.c4;clear h4 Z CB S T x;by_cases J:P<s.size
   .have zq:(P:Int)<(s.size:Int):=dg;have n:Hid (bv s=.error (some (2,P))):=qH<|by rw[a.out,if_pos J]
    clear a;go_wp2_with fail;refine Ut (V _ ze.g2 P) ?_;rintro w5 hw;obtain rfl:=hw.symm;go_wp2;refine⟨rfl,?_⟩;rw[n.out];exact⟨u _ F,rfl⟩
   .cases l:st.er with
    |none=>
     have n:Hid (bv s=.ok st.L):=qH<|by rw[a.out,if_neg J,l]
     rw[l]at c4;have zl:w4.cell? (aq (A+1) 4)=some .nilIface:=c4;clear a c4 l;go_wp2;go_ret;show ND _ _ _ _ _;rw[n.out];exact⟨u _ F,nv,KV,rfl,zi.base (by rw[R.out];omega)⟩
    |some fp=>
     obtain⟨c,q⟩:=fp;have n:Hid (bv s=.error (some (c,q))):=qH<|by rw[a.out,if_neg J,l]
     rw[l]at c4;have zl:w4.cell? (aq (A+1) 4)=some (.iface 186 (.agg #[Iq (q:Int),.iface 460 (.pointer (some (E c)))])):=c4;clear a c4 l;go_wp2;refine⟨rfl,?_⟩;rw[n.out];exact⟨u _ F,rfl⟩
def xm(name:BY)(kind:Nat):Option Nat:=if aB bu name 0<0\/fE kind (aB bu name 0).toNat=false then none else some (aB bu name 0).toNat
theorem ql j a(d:j<12)(e:a<7):dx (fJ j) a 12 0=xm (fJ j) a:=by have b:j=0\/j=1\/j=2\/j=3\/j=4\/j=5\/j=6\/j=7\/j=8\/j=9\/j=10\/j=11:=dg;have c:a=0\/a=1\/a=2\/a=3\/a=4\/a=5\/a=6:=dg;rcases b with rfl|rfl|rfl|rfl|rfl|rfl|rfl|rfl|rfl|rfl|rfl|rfl<;>rcases c with rfl|rfl|rfl|rfl|rfl|rfl|rfl<;>decide
theorem mg{name}b(h:∀j,j<12->fJ j≠name):dx name b 12 0=none/\aB bu name 0=-1:=by
 have i:∀f j,j+f<=12->dx name b f j=none:=λf=>by
  induction f with
  |zero=>intro j _;rfl
  |succ f m=>grind[dx]
 have d:∀(c:List BY) k,(∀x∈c,x≠name)->aB c name k=-1:=λc=>by
  induction c with
  |nil=>intro k _;rfl
  |cons a r m=>grind[aB]
 refine⟨i 12 0 dg,d bu 0 (λx l=>?_)⟩;obtain⟨j,e,rfl⟩:=List.getElem_of_mem l;have g:j<12:=e;grind[fJ]
def M5 name a(b:a<7):dx name a 12 0=xm name a:=by grind[fJ,ql,mg,xm]
def DJ{name}(h:¬aB bu name 0<0):(aB bu name 0).toNat<12/\fJ (aB bu name 0).toNat=name:=by
 by_cases b:∃j,j<12/\fJ j=name;.obtain⟨j,a,rfl⟩:=b;have c:j=0\/j=1\/j=2\/j=3\/j=4\/j=5\/j=6\/j=7\/j=8\/j=9\/j=10\/j=11:=dg;rcases c with rfl|rfl|rfl|rfl|rfl|rfl|rfl|rfl|rfl|rfl|rfl|rfl<;>decide
 .exact absurd (by rw[(mg (name:=name) 0 (λj a e=>b ⟨j,a,e⟩)).2];decide) h
theorem Pp{i j}(hi:i<12)(c:j<12)(h:fJ i=fJ j):i=j:=by
 have b:i=0\/i=1\/i=2\/i=3\/i=4\/i=5\/i=6\/i=7\/i=8\/i=9\/i=10\/i=11:=dg;have a:∀i,i<12->(aB bu (fJ i) 0).toNat=i:=by decide
 grind
def uY b x y:∀k,(0<=aB (b++[y]) x k↔(0<=aB b x k\/y=x)):=by
 induction b with
 |nil=>grind[aB]
 |cons a r c=>grind[aB]
theorem Dg f c p c2 a:fh (fh f c p) c2 a=fh f c p:=by cases f<;>rfl
def iq b f c p c2 a:bN b (fh f c p) c2 a=fh f c p:=by grind[bN,Dg]
theorem uC{f:dM}(h:f≠none)c p:fh f c p=f:=by cases f with
 |none=>grind
 |some x=>rfl
def lA f c p:fh f c p≠none:=by cases f<;>simp[fh]
theorem AD L b a up e n:(grown L ⟨b,a,[],[],up⟩).modify L.length (λd=>{d with attr:=d.attr.set e n})=grown L ⟨b,a.set e n,[],[],up⟩:=by
 have g:∀(M:zza) (d:Nd) (f:Nd->Nd),M.length=L.length->(M++[d]).modify L.length f=M++[f d]:=λM d f h=>by apply JH;grind
 grind[grown]
def vf L d:(grown L d).map (λx=>x.attr)=L.map (λx=>x.attr)++[d.attr]:=by
 unfold grown;split;.simp
 .rw[mi];congr 1;apply JH;grind
def rT L k n:eD L k n=(L.map λx=>x.attr).any λa=>a[k]?.getD 0==n:=by grind[eD]
def vj L d n:eD (grown L d) 0 n=(em L n||(d.attr[0]?.getD 0==n)):=by rw[rT,vf,JK,<-rT,yr];simp
structure E'(kind:Nat)(up:Int)(L:zza)(er:dM)(a:zzc)(seen:zzh)(L':zza)(ws:List BY):Prop where
 len:L'.length=L.length+1
 same:er=none->L'=grown L ⟨kind,a,[],[],up⟩
 q:∀ix,ix<12->fE kind ix=true->(seen.contains ix=true↔0<=aB ws (fJ ix) 0)
 z:seen.contains 0=false->a[0]?.getD 0=0
def Xy(kind:Nat)(up:Int)(L:zza)(ws:List BY)(r:Except Nat (Nat×dM×List Int×List Nat))(r':Except Nat (Nat×dM×List Nd×BY)):Prop:=match r,r' with
 |.error b,.error b'=>b=b'
 |.ok (i,er,a,seen),.ok (i',Ti,L',t)=>i=i'/\er=Ti/\E' kind up L er a seen L' (ws++[t])
 |_,_=>False
def N2 a:k6 a=fY[a]?.getD 0:=rfl
def Dk{s}{f}{up}{L}{m}{a}{seen}{p}{C}(hk:f<7)(h:E' f up L m a seen p C)i:
 Xy f up L C (eM s f L i m a seen) (dG s f C p L.length i m):=by
 unfold eM dG;simp only[];by_cases A:run am s (sk s i)=sk s i;.rw[if_pos A,if_pos A];rfl
 .rw[if_neg A,if_neg A];obtain⟨at_,zh⟩:=af (sk s i);obtain⟨k,zj⟩:=af (run am s at_);obtain⟨t,ht⟩:=af (s.extract at_ k);rw[zh,zj,ht];unfold cG;by_cases W:aK s k 61=true
  .rw[if_pos W,if_pos W];unfold om;simp only[];obtain⟨B,M⟩:=af (sk s (an s k 61));obtain⟨e2,H⟩:=af (run aE s B);rw[M,H];by_cases U:eX s B e2=true;.rw[if_pos U,if_pos U];rfl
   .rw[if_neg U,if_neg U];obtain⟨n,hn⟩:=af (dv s B (e2-B));rw[hn];have l:=M5 t f hk;unfold xm at l;by_cases r:aB bu t 0<0\/fE f (aB bu t 0).toNat=false
    .rw[if_pos r];rw[if_pos r]at l;have w:oh t f C=some 7:=by unfold oh;rw[l]
     rw[w];refine⟨rfl,rfl,h.len,λe=>absurd e (lA _ _ _),λg x how=>?_,h.z⟩;rw[h.q g x how,uY];constructor;.omega
     .rintro(q|rfl);.exact q
      .exfalso;rcases r with h1|h1
       .have T:=(ql g f x hk);rw[l]at T;unfold xm at T;rw[if_neg (by
         have zm:∀i,i<12->¬aB bu (fJ i) 0<0:=by decide
         grind)]at T;cases T
       .have zm:∀i,i<12->(aB bu (fJ i) 0).toNat=i:=by decide
        grind
    .rw[if_neg r];rw[if_neg r]at l;have Q:¬aB bu t 0<0:=λq=>r (.inl q);have how:fE f (aB bu t 0).toNat=true:=by
      cases ho:fE f (aB bu t 0).toNat with
      |true=>rfl
      |false=>grind
     obtain⟨x,O⟩:=DJ Q;obtain⟨g,K⟩:=af ((aB bu t 0).toNat);have J:aB bu t 0=(g:Int):=dg;rw[K]at l how x O|-;rw[J];have F:=h.q g x how;rw[O]at F;have zg:tc t f=g:=by unfold tc;rw[l];rfl
     rw[zg];have j:∀v,v<12->fE f v=true->((g::seen).contains v=true↔0<=aB (C++[t]) (fJ v) 0):=λv I P=>by rw[uY,<-h.q v I P,List.contains_cons];grind[Pp]
     have y:(g::seen).contains 0=false->(a.set g n)[0]?.getD 0=0:=λe=>by rw[List.contains_cons]at e;simp only[Bool.or_eq_false_iff]at e;have zk:g≠0:=λq=>rn;rw[qB zk];exact h.z e.2
     have zo:0<=n:=by have:=(RJ s (an s k 61) (-1)).1;unfold nV at this;rw[if_pos (by decide),M,H,hn]at this;exact this
     by_cases V:seen.contains g=true
     .have hf:=F.1 V;have w:oh t f C=some 5:=by unfold oh;rw[l];simp only[if_pos hf]
      rw[w,V];have X:bN true m 5 at_=fh m 5 at_:=rfl;rw[X,iq,iq];exact⟨rfl,rfl,h.len,λe=>absurd e (lA _ _ _),j,y⟩
     .have hf:¬0<=aB C t 0:=λq=>V (F.2 q);have w:oh t f C=none:=by unfold oh;rw[l];simp only[if_neg hf]
      have G:seen.contains g=false:=by simpa using V
      rw[w,G];have X:bN false m 5 at_=m:=rfl;rw[X];show _=_/\_=_/\E' f up L _ _ _ _ _;by_cases N:k6 g<n
      .have D:bN (decide (fY[g]?.getD 0<n)) m 6 B=fh m 6 B:=by rw[<-N2,decide_eq_true N];rfl
       have Y:t_ p g n=some 6:=by unfold t_;rw[if_pos N]
       have S:setL p L.length g n=p:=by unfold setL;rw[if_pos (.inl N)]
       rw[D,iq,Y,S];exact⟨rfl,rfl,h.len,λe=>absurd e (lA _ _ _),j,y⟩
      .have D:bN (decide (fY[g]?.getD 0<n)) m 6 B=m:=by rw[<-N2,decide_eq_false N];rfl
       have Y:t_ p g n=if setB p g n=true then some 5 else none:=by unfold t_;rw[if_neg N]
       have S:setL p L.length g n=if setB p g n=true then p else p.modify L.length λd=>{d with attr:=d.attr.set g n}:=by
        unfold setL;by_cases R:setB p g n=true;.grind
        .grind
       rw[D,Y];by_cases E:m=none
       .have Z:=h.same E;have R:setB p g n=(decide ((g:Int)=0/\0<n)&&em L n):=by
         unfold setB;by_cases zi:g=0;.subst zi;have ze:=h.z G;rw[Z,vj];show((0:Nat)==0&&(n !=li 0)&&(em L n||(a[0]?.getD 0==n)))=_;rw[ze];have hw:li 0=0:=rfl;grind
         .grind[ou]
        rw[<-R];by_cases u:setB p g n=true;.rw[if_pos u,S,if_pos u,u];exact⟨rfl,rfl,h.len,λe=>absurd e (lA _ _ _),j,y⟩
        .rw[if_neg u,S,if_neg u];have zl:setB p g n=false:=by simpa using u
         rw[zl];refine⟨rfl,rfl,by simpa using h.len,λ_=>?_,j,y⟩;grind[AD]
       .have k1:∀b,bN b m 5 B=m:=λb=>by grind[bN,uC]
        have k2:∀o,gV m o B=m:=λo=>by cases o with
         |none=>rfl
         |some c=>exact uC E _ _
        rw[k1,k2];exact⟨rfl,rfl,by rw[nK];exact h.len,λe=>absurd e E,j,y⟩
  .rw[if_neg W,if_neg W];rfl
theorem vs s i c:aK s (sk s i) c=aK s i c:=by unfold aK;rw[jq]
theorem ve s i c:an s (sk s i) c=an s i c:=by unfold an;rw[jq]
def tF{s}{i c}(h:¬aK s i c=true):an s i c=sk s i:=by grind[aK,an]
def Va(kind:Nat)(up:Int)(L:zza)(r:Except Nat (Nat×dM×List Int))(r':Except Nat (Nat×dM×List Nd)):Prop:=match r,r' with
 |.error b,.error b'=>b=b'
 |.ok (i,er,a),.ok (i',Ti,L')=>i=i'/\er=Ti/\L'.length=L.length+1/\(er=none->L'=grown L ⟨kind,a,[],[],up⟩)
 |_,_=>False
def uF{s}{c}{up}{L}(o:c<7):∀f i d a seen e g,E' c up L d a seen e g->Va c up L (cX s c L f i d a seen) (dh s c L.length f i d e g)
 |0,i,d,a,seen,e,g,h=>rfl
 |f+1,i,d,a,seen,e,g,h=>by
  have w:=Dk (s:=s) o h i;unfold cX dh;revert w;cases eM s c L i d a seen with
  |error b=>
   cases dG s c g e L.length i d with
   |error p=>exact λq=>q
   |ok r=>exact λq=>q.elim
  |ok r=>
   obtain⟨l,u,z,n⟩:=r;cases dG s c g e L.length i d with
   |error p=>exact λq=>q.elim
   |ok x=>
    obtain⟨A,v,y,t⟩:=x;rintro⟨rfl,rfl,m⟩;show Va c up L (if aK s l 59=true then _ else _) (if aK s l 59=true then _ else _);by_cases j:aK s l 59=true;.rw[if_pos j,if_pos j];exact uF o f _ _ _ _ _ _ m
    .rw[if_neg j,if_neg j,tF j];unfold k_ cG;rw[vs,ve,jq];by_cases k:aK s l 125=true;.rw[if_pos k,if_pos k];exact⟨rfl,rfl,m.len,m.same⟩
     .rw[if_neg k,if_neg k];rfl
structure un(a b:PS):Prop where
 i:a.i=b.i
 er:a.er=b.er
 len:a.L.length=b.L.length
 same:a.er=none->a.L=b.L
def xW(r r':Except Nat PS):Prop:=match r,r' with
 |.error b,.error b'=>b=b'
 |.ok a,.ok b=>un a b
 |_,_=>False
def un.to{a b}(h:un a b)i:un {a with i:=i} {b with i:=i}:=⟨rfl,h.er,h.len,h.same⟩
def Gw{s:BY}{a b:PS}{c:Nat}(h:un a b):xW (match cG s a.i c with
 |.error e=>.error e
 |.ok i=>.ok {a with i:=i}) (dd s b c):=by
 unfold cG dd;rw[h.i];by_cases d:aK s b.i c=true;.rw[if_pos d,if_pos d];exact h.to _
 .rw[if_neg d,if_neg d];rfl
def OD{s}{b}{c}:dd s {b with i:=sk s b.i} c=dd s b c:=by grind[dd,aK,sk,vs,an,ve,jq]
def BB{s}{g d}(n:∀a b,un a b->xW (g a) (d b)):∀f a b,un a b->xW (eP s g f a) (fD s d f b)
 |0,a,b,h=>h.i
 |f+1,a,b,h=>by
  have p:=n a b h;unfold eP fD;revert p;cases g a with
  |error e=>
   cases d b with
   |error o=>grind
   |ok l=>exact λq=>q.elim
  |ok m=>
   cases d b with
   |error o=>exact λq=>q.elim
   |ok l=>
    intro r;have j:un m l:=r;show xW (if aK s m.i 44=true then _ else _) (if aK s l.i 44=true then _ else _);rw[j.i];by_cases k:aK s l.i 44=true;.rw[if_pos k,if_pos k];exact BB n f _ _ (j.to _)
    .rw[if_neg k,if_neg k,tF k,OD];have:=Gw (s:=s) (c:=93) j;rw[j.i]at this;omega
def ol{L M}{d e}(h:L.length=M.length):(grown L d).length=(grown M e).length:=by grind[cN]
def Nb{s:BY}{c:Nat}{a b:PS}(h:un a b):xW (match fo s a.i with
 |.error e=>.error e
 |.ok (d,t)=>.ok {a with i:=d,L:=ao a.L c t}) (f_ s c b):=by
 unfold f_;rw[h.i];cases fo s b.i with
 |error e=>rfl
 |ok r=>obtain⟨d,t⟩:=r;exact⟨rfl,h.er,by show(ao a.L c t).length=(ao b.L c t).length;unfold ao;simpa using h.len,λq=>by show ao a.L c t=ao b.L c t;rw[h.same q]⟩
def Mj{s:BY}{d c:PS->Except Nat PS}(k:∀a b,un a b->xW (d a) (c b)){a b:PS}(h:un a b):xW (match cG s a.i 91 with
 |.error e=>.error e
 |.ok j=>if aK s j 93 then .ok {a with i:=an s j 93}else eP s d (s.size+1) {a with i:=sk s j}) (fm s c b):=by
 unfold cG fm;rw[h.i];by_cases g:aK s b.i 91=true
 .rw[if_pos g,if_pos g];show xW (if aK s (an s b.i 91) 93=true then _ else _) _;by_cases f:aK s (an s b.i 91) 93=true;.rw[if_pos f,if_pos f];exact h.to _
  .rw[if_neg f,if_neg f,tF f];exact BB k _ _ _ (h.to _)
 .rw[if_neg g,if_neg g];rfl
def Pt{s:BY}{f d:PS->Except Nat PS}(n:∀a b,un a b->xW (f a) (d b)){a b:PS}(h:un a b):xW (match cG s a.i 91 with
 |.error e=>.error e
 |.ok o=>match f {a with i:=o}with
  |.error e=>.error e
  |.ok g=>match cG s g.i 93 with
   |.error e=>.error e
   |.ok p=>.ok {g with i:=p}) (mO s d b):=by
 unfold cG mO;rw[h.i];by_cases j:aK s b.i 91=true
 .rw[if_pos j,if_pos j];have m:=n _ _ (h.to (an s b.i 91));unfold lS;revert m;show xW (f {a with i:=an s b.i 91}) _->xW (match f {a with i:=an s b.i 91}with
   |.error e=>.error e
   |.ok g=>_) _;cases f {a with i:=an s b.i 91}with
  |error e=>
   cases d {b with i:=an s b.i 91}with
   |error l=>grind
   |ok k=>exact λq=>q.elim
  |ok r=>
   cases d {b with i:=an s b.i 91}with
   |error l=>exact λq=>q.elim
   |ok k=>exact λq=>Gw (s:=s) (c:=93) q
 .rw[if_neg j,if_neg j];rfl
def AX{s}{c f}{e d}(l:c<7)(k:∀a b,un a b->xW (e a) (d b)){a b}(h:un a b):xW (dP s c f e a) (lR s c f d b):=by
 unfold dP lR;by_cases i:c<3;.rw[if_pos i,if_neg dg,if_neg dg,if_neg dg];exact Mj k h
 .rw[if_neg i];by_cases j:c<5;.rw[if_pos j,if_neg dg,if_neg dg,if_pos dg];exact Pt k h
  .rw[if_neg j];by_cases g:c=5;.rw[if_pos g,if_pos g];exact Nb h
   .rw[if_neg g,if_neg g,if_pos dg];exact h
def I7 b n a p:bN (decide (12<=a)) (bN (decide (100<=n)) b 3 p) 4 p=gV b (iM n a) p:=by
 unfold iM;by_cases c:100<=n;.rw[decide_eq_true c,if_pos c];show bN _ (fh b 3 p) 4 p=_;rw[iq];rfl
 .rw[decide_eq_false c,if_neg c];show bN _ b 4 p=_;by_cases d:12<=a;.rw[decide_eq_true d,if_pos d];rfl
  .rw[decide_eq_false d,if_neg d];rfl
def tN{s}{i}(e:run am s (sk s i)=sk s i):cY s i<0:=by
 have:lj s i=ByteArray.empty:=by unfold lj;rw[e];apply jx;simp
 unfold cY;rw[this];decide
def yL{a}{o}{p}(h:gV a o p=none):a=none:=by
 cases o with
 |none=>exact h
 |some c=>exact absurd h (lA _ _ _)
def BI{s}:∀f  up  c a b,un a b->xW (dn s f up c a) (aC s f up c b)
 |0,up,c,a,b,h=>h.i
 |f+1,up,c,a,b,h=>by
  unfold dn aC;simp only[];rw[h.i,h.len];have v:aB cK (s.extract (sk s b.i) (run am s (sk s b.i))) 0=cY s b.i:=rfl;rw[v];by_cases g:cY s b.i<0;.rw[if_pos (.inr g),if_pos g];rfl
  .have t:¬run am s (sk s b.i)=sk s b.i:=λe=>g (tN e);rw[if_neg (by rintro(q|q);exact t q;exact g q),if_neg g];have H:=rY s b.i;obtain⟨d,n⟩:=af ((cY s b.i).toNat);have p:d<7:=dg;obtain⟨k,u⟩:=af (run am s (sk s b.i));rw[n,u,I7,h.er];obtain⟨j,m⟩:=af (gV b.er (iM b.L.length c) (sk s b.i));rw[m];have A:=λq=>h.same (by rw[h.er];exact yL (m.trans q));have l:∀x y,un x y->xW (dn s f (b.L.length:Int) (c+1) x) (aC s f (b.L.length:Int) (c+1) y):=λx y w=>BI f _ _ x y w;unfold gD Mz;by_cases o:aK s k 123=true;.rw[if_pos o,if_pos o];have F:E' d up a.L j aJ [] (grown b.L ⟨d,aJ,[],[],up⟩) []:=⟨by rw[cN,h.len],λq=>by rw[A q],λQ G how=>by simp[aB],λ_=>rfl⟩;have B:=uF (s:=s) p (s.size+1) (an s k 123) j aJ [] _ [] F;rw[h.len]at B;revert B;cases N:cX s d a.L (s.size+1) (an s k 123) j aJ []with
    |error e=>
     cases dh s d b.L.length (s.size+1) (an s k 123) j (grown b.L ⟨d,aJ,[],[],up⟩) []with
     |error C=>exact λq=>q
     |ok r=>exact λq=>q.elim
    |ok r=>
     obtain⟨O,D,M⟩:=r;cases hy:dh s d b.L.length (s.size+1) (an s k 123) j (grown b.L ⟨d,aJ,[],[],up⟩) []with
     |error C=>exact λq=>q.elim
     |ok K=>obtain⟨P,E,z⟩:=K;rintro⟨rfl,rfl,I,J⟩;exact AX p l ⟨rfl,rfl,by show(grown a.L _).length=z.length;rw[cN,I],λq=>by show grown a.L _=z;exact(J q).symm⟩
   .rw[if_neg o,if_neg o,tF o];exact AX p l ⟨rfl,rfl,ol h.len,λq=>by show grown a.L _=grown b.L _;rw[A q]⟩
def conv:Except (Option (Nat×Nat)) (List Nd)->Except (Nat×Nat) (List Nd)
 |.ok L=>.ok L
 |.error none=>.error (1,0)
 |.error (some f)=>.error f
def uf s:conv (bv s)=fF s:=by
 unfold bv fF;by_cases d:4000<s.size;.rw[if_pos d,if_pos d];rfl
 .rw[if_neg d,if_neg d];have h:=BI (s:=s) (s.size+1) (-1) 0 ⟨0,[],none⟩ ⟨0,[],none⟩ ⟨rfl,rfl,rfl,λ_=>rfl⟩;revert h;cases dn s (s.size+1) (-1) 0 ⟨0,[],none⟩with
  |error b=>
   cases aC s (s.size+1) (-1) 0 ⟨0,[],none⟩with
   |error g=>rintro rfl;rfl
   |ok st=>exact λq=>q.elim
  |ok a=>
   cases aC s (s.size+1) (-1) 0 ⟨0,[],none⟩with
   |error g=>exact λq=>q.elim
   |ok b=>
    intro h;have c:un a b:=h;show conv (wM s b)=if sk s a.i<s.size then _ else _;unfold wM;rw[c.i,c.er];by_cases e:sk s b.i<s.size;.rw[if_pos e,if_pos e];rfl
    .rw[if_neg e,if_neg e];cases j:b.er with
     |some f=>rfl
     |none=>show Except.ok b.L=Except.ok a.L;rw[c.same (by rw[c.er,j])]
def CR(f:dM):Prop:=∀c p,f=some (c,p)->2<=c/\c<=7
def CR.none:CR none:=λc p e=>by cases e
def CR.add{f}(h:CR f){c}(a:2<=c/\c<=7)p:CR (fh f c p):=by
 cases f with
 |none=>intro b d e;cases e;exact a
 |some x=>exact h
def CR.addI{f}(h:CR f)b{c}(a:2<=c/\c<=7)p:CR (bN b f c p):=by
 cases b with
 |false=>exact h
 |true=>exact h.add a p
theorem QM{b}{L}{c}{a}{seen}{st}(h:CR c):CR (fa b L c a seen st).1:=by
 unfold fa;split;.exact h.add dg _
 .exact((h.addI _ dg _).addI _ dg _).addI _ dg _
def FJ{s}{b}{L}{i}{d}{a}{seen}{e}{c}{f}{j}(h:CR d)(hh:eM s b L i d a seen=.ok (e,c,f,j)):CR c:=by rcases oV s b L i d a seen (-1) dg with⟨_,g⟩|⟨_,g⟩;all_goals grind[QM,bE]
theorem rE{s}{d}{L}:∀  f i   g   a   seen   m   c   k,CR g->cX s d L f i g a seen=.ok (m,c,k)->CR c
 |0,i,g,a,seen,m,c,k,h,e=>by cases e
 |f+1,i,g,a,seen,m,c,k,h,e=>by
  cases l:eM s d L i g a seen with
  |error b=>simp_all[kP]
  |ok q=>
   obtain⟨j,o,r,t⟩:=q;have p:=FJ h l;by_cases n:aK s j 59=true;.rw[i_ l n]at e;exact rE f _ _ _ _ _ _ _ p e
   .rw[iZ l n]at e;grind[iw]
def Dl{s}{b}{L}{i}{c}{f}{a}{d}(h:CR c)(e:gD s b L i c=.ok (f,a,d)):CR a:=by grind[gD,rE]
def vI{s}{c}(i:∀st a,CR st.er->c st=.ok a->CR a.er):∀  f   st a,CR st.er->eP s c f st=.ok a->CR a.er
 |0,st,a,h,e=>by cases e
 |f+1,st,a,h,e=>by
  rw[eP]at e;cases g:c st with
  |error b=>grind
  |ok d=>
   rw[g]at e;simp only at e;have j:=i st d h g;split at e;.exact vI i f _ a (by exact j) e
   grind
def FO{s}{c k}{b}(d:∀st a,CR st.er->b st=.ok a->CR a.er){st a}(h:CR st.er)(e:dP s c k b st=.ok a):CR a.er:=by
 unfold dP at e;split at e
 .split at e;.cases e
  .split at e;.grind
   .exact vI d _ _ _ (by exact h) e
 grind
def vY{s}:∀  f   up   c   st d,CR st.er->dn s f up c st=.ok d->CR d.er
 |0,up,c,st,d,h,e=>by cases e
 |f+1,up,c,st,d,h,e=>by
  rw[dn]at e;split at e;.cases e
  .split at e;.cases e
   .rename_i g;exact FO (λa b=>vY f _ _ a b) (Dl ((h.addI _ dg _).addI _ dg _) g) e
def qc{s}{c p}(h:bv s=.error (some (c,p))):2<=c/\c<=7:=by
 have b:=uf s;rw[h]at b;have a:fF s=.error (c,p):=b.symm;unfold fF at a;split at a;.grind[bv]
 .split at a;.grind
  .rename_i st d;have e:=vY _ _ _ _ _ (CR.none) d;split at a;.grind
   .split at a;.rename_i f g;injection a with a;exact e c p rn
    grind
