import Derived.Test.YtehgehanbnkdiaaGreatDoorQ25
import Derived.RegionDies
set_option linter.all false
set_option maxRecDepth 100000
set_option maxHeartbeats 16000000
namespace Go.Proofs.YtehgehanbnkdiaaGreatDoor
open Go.RowKit Go.Proofs.Tryz
theorem GJ{i}(h:i<0):jR i=.tuple #[Iq 0,.bool false]:=by grind[jR]
theorem Dt{i}(h:¬i<0):jR i=.tuple #[Iq i,.bool true]:=by grind[jR]
theorem rN s i:cQ s i<7:=by
 unfold cQ;rcases lj (kU s i) dt 0 with h|h;·omega
 ·have:dt.length=7:=rfl;omega
theorem mem_add{d w w'}{c ab B}{E}{s}{st}{L}{i}{a}(h:Mem d w c ab B E s st)(g:kw w w' c B s i (Sq ab 12 12) (dL E a) L)(j:dS s ⟨i,L,a⟩):Mem d w' c ab B E s ⟨i,L,a⟩:=by obtain⟨e,k,_,f,_⟩:=h;obtain⟨l,KV,p,n,b,_⟩:=g;exact⟨e.fr b,k.fr b e.rbB e.lo,j,f.trans b,l,KV,p,n⟩
theorem qZ(m ab B:Nat)(E:zzi)(s:BY)(f:Nat)(zw:Ak m ab B E s f)(hs:s.size<=100000):Ak m ab B E s (f+1):=by
 intro up a st V w hM hup hd hf;have zD:=qH<|zw;have HM:=qH<|hM;obtain⟨H,kn,u,fr,nv,KV,pr,pn⟩:=hM;have D:=H.rbB;have zq:=H.lo;have zH:=u.il;have Xq:=u.ll;have HG:=qH<|u;obtain⟨zK,zE,rfl⟩:∃p c,nv=.slice p st.L.length c:=df pn.nr.row.choose_spec;have CW:=lI m s st.i (Sq ab 12 12) (.slice zK st.L.length zE) (dL E st.er) w pr dg zH;obtain⟨at_,zh⟩:=af (sk s st.i);have zM:at_<=s.size:=by rw[<-zh];exact f_ s st.i zH
 have Sp:st.i<=at_:=by rw[<-zh];exact fP s st.i
 obtain⟨k,hk⟩:=af (run ap s at_);have zY:k<=s.size:=by rw[<-hk];exact gu _ _ _ zM
 obtain⟨t,ht⟩:=af (s.extract at_ k);have HK:Hid (cQ s st.i=aE dt t 0):=by show _=_;unfold cQ kU;rw[zh,hk,ht]
 have HW:=qH<|λh=>by have:=m6 h zH;rw[zh,hk]at this;exact this
 rw[zh,hk,ht]at CW;have zO:=qH<|CW;have HPN:=qH<|pn;have CK:Hid (∀W,Kn W->Cw 160 #[.string t] W λe w'=>e=Rw (jR (aE dt t 0))/\w'=W):=λW hW=>Ds t W _ _ _ _ _ _ _ (hW 0 dg) (hW 1 dg) (hW 2 dg) (hW 3 dg) (hW 4 dg) (hW 5 dg) (hW 6 dg);rw[<-HK.out]at CK;have Sx:=rN s st.i;have HP:Hid (aC s (f+1) up a st=if cQ s st.i<0 then .error at_ else lE (Lt s (cQ s st.i).toNat st.L.length k (gI st.er (iz st.L.length a) at_) (grown st.L ⟨(cQ s st.i).toNat,aN,[],[],up⟩)) λd=>lD s (cQ s st.i).toNat st.L.length (aC s f (st.L.length:Int) (a+1)) d):=by show _=_;unfold aC;rw[zh,hk]
 obtain⟨ki,zJ⟩:=af (cQ s st.i);rw[zJ]at CK HP HW Sx;have HT:Hid (∀W,W.cell? (aq 7 0)=some (aS (E 2))->Cw 94 #[Iq (at_:Int)] W λe w'=>e=Rw (.iface 186 (.agg #[Iq (at_:Int),.iface 460 (.pointer (some (E 2)))]))/\w'=W):=λW he=>dP _ W (E 2) he;clear CW zh hk ht HK zJ pr pn H kn u fr zw;by_cases Q:ki<0
 ·have VG:Hid (aC s (f+1) up a st=.error at_):=by show _=_;rw[HP.out,if_pos Q]
  rw[GJ Q]at CK;clear HP HW;go_enter func92,ntmps92;go_wp2_with fail;refine zO.mono ?_;rintro e w1 ⟨rfl,h1,g1⟩;have X:=qH<|Fr.grown g1 HM.1.le;have zk:=qH<|HM.1.fr X;have zA:=qH<|HM.2.1.fr X D zq;clear h1 g1;go_wp2_with fail;refine(CK _ zA).mono ?_;rintro e w2 ⟨rfl,hw⟩;obtain rfl:=hw.symm;go_wp2_with fail;refine(HT _ zk.g2).mono ?_;rintro e w3 ⟨rfl,hw⟩;obtain rfl:=hw.symm;go_wp2;refine⟨rfl,?_⟩;rw[VG.out];exact⟨rfl,HM.2.2.2.1.trans X⟩
 ·obtain⟨l,rfl⟩:∃q:Nat,ki=(q:Int):=⟨ki.toNat,dg⟩;have Xk:l<7:=dg
  have WT:=HW Q;have Z:Hid (aC s (f+1) up a st=lE (Lt s l st.L.length k (gI st.er (iz st.L.length a) at_) (grown st.L ⟨l,aN,[],[],up⟩)) λd=>lD s l st.L.length (aC s f (st.L.length:Int) (a+1)) d):=by show _=_;rw[HP.out,if_neg Q];simp only[lS]
  rw[Dt Q]at CK;have hL:st.L.length<=100000:=dg;obtain⟨L1,zo⟩:=af (grown st.L ⟨l,aN,[],[],up⟩);have zL:L1.length=st.L.length+1:=by rw[<-zo];exact cP _ _
  obtain⟨I,zu⟩:=af (gI st.er (iz st.L.length a) at_);have zN:up<st.L.length:=dg;have zm:Hid (dS s ⟨k,L1,I⟩):=⟨zY,rn,λj=>by show(ae L1 j).kids.length<=L1.length;rw[zL,<-zo];exact o9 _ _ rfl zN HG.kl j⟩;have WF:L1.length<=k:=dg
  have zB:Hid ((ae L1 st.L.length).kind=l):=by
   show _=_;rw[<-zo];by_cases hu:up<0;·grind[grown,bJ]
   ·rw[gG st.L _ up.toNat rn dg,aB _ dg,bJ]
  rw[zo,zu]at Z;clear HP HW Q;go_enter func92,ntmps92;go_wp2_with fail;refine zO.mono ?_;rintro e w1 ⟨rfl,h1,g1⟩;have X:=qH<|Fr.grown g1 HM.1.le;have zk:=qH<|HM.1.fr X;have zA:=qH<|HM.2.1.fr X D zq;have zU:=qH<|h1;have zT:=qH<|HPN.up (Up.grown g1 D);clear h1 g1;go_wp2_with fail;refine(CK _ zA).mono ?_;rintro e w2 ⟨rfl,hw⟩;obtain rfl:=hw.symm;have CR:Hid (Cw 162 #[Pq m,Iq (a:Int)] w1 λe w'=>e=Rw (O3 E (iz st.L.length a))/\w'=w1):=by have:=wG m s k (Sq ab 12 12) (dL E st.er) zK st.L.length zE a (E 3) (E 4) w1 zU zk.g3 zk.g4;rw[LI]at this;exact this
  go_wp2_with fail;refine CR.mono ?_;rintro e w3 ⟨rfl,hw⟩;obtain rfl:=hw.symm;have CP:Hid (Cw 161 #[Pq m,O3 E (iz st.L.length a),Iq (at_:Int)] w1 λe w'=>e=Rw (.tuple #[])/\PR w' m s k (Sq ab 12 12) (.slice zK st.L.length zE) (dL E I)/\w1.grownBy w' (some m)):=by have:=keep_all m s k (Sq ab 12 12) (.slice zK st.L.length zE) E st.er (iz st.L.length a) at_ w1 zU;rw[zu]at this;exact this
  clear zu;go_wp2_with fail;refine CP.mono ?_;rintro e w4 ⟨rfl,h4,g4⟩;have zy:=qH<|X.trans (Fr.grown g4 zk.le);have zl:=qH<|HM.1.fr zy;have TS:Hid (Mem V w4 m ab B E s ⟨k,st.L,I⟩):=⟨zl,HM.2.1.fr zy D zq,⟨zY,rn,HG.kl⟩,HM.2.2.2.1.trans zy,_,KV,h4,zT.up (Up.grown g4 D)⟩;have CA:Hid (Cw 163 #[Pq m,Iq (l:Int),Iq up] w4 λe w'=>e=Rw (Iq (st.L.length:Int))/\kw w4 w' m B s k (Sq ab 12 12) (dL E I) L1):=by have:=uj m ab B s k _ (dL E I) st.L KV l up w4 h4 (zT.up (Up.grown g4 D)) zl.tab D zl.abB zl.ne zl.le hL hup (λj ks hj Xl=>by rw[<-Xl];have:=HG.kl j;omega);rw[zo]at this;exact this
  clear h4 g4 CP CR X zk zA zU zT zo;go_wp2_with fail;refine CA.mono ?_;rintro e w5 ⟨rfl,h5⟩;have zC:=qH<|mem_add TS h5 zm;obtain⟨g,zv⟩:=af st.L.length;rw[zv]at Z zL zB hL;rw[zv];have zJ:k=(⟨k,L1,I⟩:PS).i:=rfl;have CT:Hid (Cw 164 #[Pq m,.int .u8 123] w5 λe w'=>e=Rw (.bool (aR s k 123))/\Mem V w' m ab B E s ⟨ao s k 123,L1,I⟩):=mq (st:=⟨k,L1,I⟩) 123 zC dg dg;have Um:=cJ s k 123;have zG:=dy (s:=s) (i:=k) (c:=123) dg zY;have Ug:a+1<=k:=dg
  have Ui:s.size<f+k:=dg;clear h5 TS CA zl zy zv zm HM HG HPN zO CK HT hup zN hd hf zH Xq zM Sp zJ;by_cases hq:aR s k 123=true
  ·obtain⟨Sg,YP,zV,Wx,_2,Y',YY,YX⟩:=zC.out;rw[hq]at CT;go_wp2_with fail;refine CT.mono ?_;rintro e w6 ⟨rfl,h6⟩;clear Sg YP zV Wx YY YX;have Y:=qH<|h6;obtain⟨H,kn,u,fr,nv,zn,pr,pn⟩:=h6;obtain⟨bl,T,rfl,zF,zj,_,_⟩:=pn.nr.form rn;have CA:=qH<|readAttributes_any m ab B E s (ao s k 123) I L1 zn bl T g l w6 H pr pn dg dg zB Xk dg zG;have c3:=pr.c3;have zI:(g:Int)<(L1.length:Int):=dg
   clear H kn u fr pr pn CT zC;cases P:cY s l g (s.size+1) (ao s k 123) I L1 []with
   |error b=>
    have o:Hid (aC s (f+1) up a st=.error b):=by show _=_;rw[Z.out];unfold Lt;rw[if_pos hq,P];rfl
    rw[P]at CA;clear P Z hq;go_wp2_with fail;refine CA.mono ?_;rintro e w7 ⟨f7,rfl⟩;refine⟨rfl,?_⟩;rw[o.out];exact⟨rfl,Y.2.2.2.1.trans (f7.fr Y.1.le zF)⟩
   |ok r=>
    obtain⟨i2,Ef,L2⟩:=r;have n:Hid (aC s (f+1) up a st=lD s l g (aC s f (g:Int) (a+1)) ⟨i2,L2,Ef⟩):=by show _=_;rw[Z.out];unfold Lt;rw[if_pos hq,P];rfl
    obtain⟨b1,b2,b3,b4⟩:=oP _ _ _ _ _ _ _ _ zG P;rw[P]at CA;clear P Z hq;go_wp2_with fail;refine CA.mono ?_;rintro e w7 ⟨f7,rfl,N,n7,l7⟩;have O:=f7.fr Y.1.le zF;obtain⟨d,y⟩:∃z:PS,⟨i2,L2,Ef⟩=z:=⟨_,rfl⟩;have zZ:a+1<=d.i:=by rw[<-y];show a+1<=i2;omega
    have Ts:s.size<f+d.i:=by rw[<-y];show s.size<f+i2;omega
    have U:g<d.L.length:=by rw[<-y];show g<L2.length;omega
    have x:Hid (Mem V w7 m ab B E s d):=by
     rw[<-y];refine⟨Y.1.fr O,Y.2.1.fr O D zq,⟨b2,?_,λj=>?_⟩,Y.2.2.2.1.trans O,_,zn,N,n7⟩;·grind
     ·show(ae L2 j).kids.length<=L2.length;rw[b4,b3];exact Y.2.2.1.kl j
    rw[y]at n;clear N n7 f7 O CA y c3 Um zG Ug Ui zB Y;have zX:l=0\/l=1\/l=2\/l=3\/l=4\/l=5\/l=6:=dg;have zt:((a+1:Nat):Int)=(a:Int)+1:=dg;have Xb:(a:Int)+1<=1000000:=by have:=x.2.2.1.il;omega
    have CL:Hid (Cw 168 #[Pq m,Iq (g:Int),Iq ((a:Int)+1)] w7 λe w'=>cZ V w' e m ab B E s (eX s (aC s f (g:Int) (a+1)) d)):=by have:=nj m ab B E s f zD dg g (a+1) d V w7 x U zZ Ts;rw[zt]at this;exact this
    rcases zX with rfl|rfl|rfl|rfl|rfl|rfl|rfl;iterate 3
     ·have v:Hid (aC s (f+1) up a st=eX s (aC s f (g:Int) (a+1)) d):=by show _=_;rw[n.out];rfl
      obtain⟨R,hR⟩:=af (eX s (aC s f (g:Int) (a+1)) d);rw[hR]at CL v;clear hR n;go_wp2_with fail;refine CL.mono ?_;cases R with
      |error b=>rintro e J ⟨rfl,f7⟩;refine⟨rfl,?_⟩;rw[v.out];exact⟨rfl,f7⟩
      |ok C=>rintro e J ⟨rfl,N⟩;have zQ:=qH<|N;clear N CL;go_wp2;go_end0;show cZ _ _ _ _ _ _ _ _ _;rw[v.out];exact⟨rfl,zQ⟩
    iterate 2
     ·by_cases hb:aR s d.i 91=true
      ·have K:Hid (Cw 167 #[Pq m,.int .u8 91] w7 λe w'=>cZ V w' e m ab B E s (cV s d 91)):=du 91 x dg dg;have e1:cV s d 91=.ok {d with i:=ao s d.i 91}:=by unfold cV;rw[if_pos hb]
       rw[e1]at K;obtain⟨C,F⟩:∃z:PS,{d with i:=ao s d.i 91}=z:=⟨_,rfl⟩;have z1:d.i<=C.i:=by rw[<-F];exact cJ _ _ _
       have z2:C.L.length=d.L.length:=by rw[<-F]
       rw[F]at K;have v:Hid (∀r,aC s f (g:Int) (a+1) C=r->aC s (f+1) up a st=lE r λM=>cV s M 93):=λr hr=>by rw[n.out];show mz s (aC s f (g:Int) (a+1)) d=_;grind[mz]
       clear e1 F hb CL n;go_wp2_with fail;refine K.mono ?_;rintro e J ⟨rfl,N⟩;have CN:Hid (Cw 92 #[Pq m,Iq (g:Int),Iq ((a:Int)+1)] J λe w'=>cZ V w' e m ab B E s (aC s f (g:Int) (a+1) C)):=by have:=zD (g:Int) (a+1) C V J N (.inr ⟨dg,dg⟩) dg dg;rw[zt]at this;exact this
       clear N K;cases P:aC s f (g:Int) (a+1) C with
       |error b=>have o:Hid (aC s (f+1) up a st=.error b):=v _ P;rw[P]at CN;clear P v;go_wp2_with fail;refine CN.mono ?_;rintro e x8 ⟨rfl,f8⟩;refine⟨rfl,?_⟩;rw[o.out];exact⟨rfl,f8⟩
       |ok M=>
        have o:Hid (aC s (f+1) up a st=cV s M 93):=v _ P;rw[P]at CN;clear P v;go_wp2_with fail;refine CN.mono ?_;rintro e x8 ⟨rfl,h8⟩;have K:Hid (Cw 167 #[Pq m,.int .u8 93] x8 λe w'=>cZ V w' e m ab B E s (cV s M 93)):=du 93 h8 dg dg;obtain⟨R,hR⟩:=af (cV s M 93);rw[hR]at K o;clear h8 CN hR;go_wp2_with fail;refine K.mono ?_;cases R with
        |error b=>rintro e x9 ⟨rfl,f9⟩;refine⟨rfl,?_⟩;rw[o.out];exact⟨rfl,f9⟩
        |ok Y0=>rintro e x9 ⟨rfl,h9⟩;have zR:=qH<|h9;clear h9 K;go_wp2;go_end0;show cZ _ _ _ _ _ _ _ _ _;rw[o.out];exact⟨rfl,zR⟩
      ·have K:Hid (Cw 167 #[Pq m,.int .u8 91] w7 λe w'=>cZ V w' e m ab B E s (cV s d 91)):=du 91 x dg dg;have e1:cV s d 91=.error (sk s d.i):=by unfold cV;rw[if_neg hb]
       rw[e1]at K;have o:Hid (aC s (f+1) up a st=.error (sk s d.i)):=by show _=_;rw[n.out];show mz s (aC s f (g:Int) (a+1)) d=_;unfold mz;rw[if_neg hb]
       clear e1 hb CL n;go_wp2_with fail;refine K.mono ?_;rintro e J ⟨rfl,f7⟩;refine⟨rfl,?_⟩;rw[o.out];exact⟨rfl,f7⟩
    ·obtain⟨H,kn,u,fr,nv,zn,pr,pn⟩:=x.out;obtain⟨bl,T,rfl,zF,zj,_,_⟩:=pn.nr.form dg;have G:=qH<|H;have S:=qH<|pr;have HPN:=qH<|pn;have CS:Hid (∀W,PR W m s d.i (Sq ab 12 12) (Sq bl d.L.length T) (dL E d.er)->W.cell? (aq 7 0)=some (aS (E 2))->Cw 166 #[Pq m] W λe w'=>Jv W w' e m s (Sq ab 12 12) (Sq bl d.L.length T) (dL E d.er) (E 2) (jJ s d.i)):=λW h1 h2=>iZ m s d.i _ _ _ (E 2) W h1 dg u.il dg h2;have zm:=qH<|u;clear H kn u fr pr pn CL;cases A:jJ s d.i with
     |error b=>
      have o:Hid (aC s (f+1) up a st=.error b):=by show _=_;rw[n.out];show fO s g d=_;unfold fO;rw[A]
      rw[A]at CS;clear A n;have c3:=S.c3;have zI:(g:Int)<(d.L.length:Int):=dg;go_wp2_with fail;go_region_dies;all_goals refine(CS _ (S.drewN 1) G.g2).mono ?_;rintro e J ⟨g7,rfl⟩;refine⟨rfl,?_⟩;rw[o.out];exact⟨rfl,x.2.2.2.1.trans ((Fr.drewN B m w7 1).trans (Fr.grown g7 G.le))⟩
     |ok r=>
      obtain⟨i2,tt⟩:=r;have o:Hid (aC s (f+1) up a st=.ok {d with i:=i2,L:=am d.L g tt}):=by show _=_;rw[n.out];show fO s g d=_;unfold fO;rw[A]
      have zP:=qH<|(qh (s:=s) (idx:=g) zm (by unfold fO;rw[A])).good;rw[A]at CS;clear A n;have c3:=S.c3;have zI:(g:Int)<(d.L.length:Int):=dg
      have ce:=HPN.nr.cells bl rfl g U 13 _ (Bp (HPN.len g U));obtain⟨ov,zx⟩:∃z:BY,⟨(ae d.L g).text.toArray⟩=z:=⟨_,rfl⟩;rw[zx]at ce;have cf:w7.frozen? (aq bl (g*16+13))=false:=HPN.nr.frz rfl _;have WZ:bl≠m:=dg;clear zx;go_wp2_with fail;go_region_with(first|(go_at_call 166;refine(CS _ (S.drewN 1) G.g2).mono ?_;rintro e J ⟨g7,rfl,N⟩;have zr:=qH<|N;have ze:=qH<|g7;have k3:=N.c3;have zi:J.heap[bl]?=w7.heap[bl]?:=g7.block bl zj rn;have kc:=(aO zi).trans ce;have kf:=(ji zi).trans cf;clear N g7));all_goals
       have zS:Hid (Mem V (J.setCell (aq bl (g*16+13)) (.string ⟨tt.toArray⟩)) m ab B E s {d with i:=i2,L:=am d.L g tt}):=by
        have O:=(Fr.drewN B m w7 1).trans (Fr.grown ze G.le);have zg:Fr B m w7 (J.setCell (aq bl (g*16+13)) (.string ⟨tt.toArray⟩)):=O.trans (Fr.own (cH J bl _ _) (az G.le O.size) (λq e=>rn));have Tw:=(HPN.up (Up.drewN B w7 1)).up (Up.grown ze D);have Tx:=Tw.setText U tt;have Yr:(am d.L g tt).length=d.L.length:=by unfold am;simp
        refine⟨G.fr zg,x.2.1.fr zg D zq,zP,x.2.2.2.1.trans zg,Sq bl d.L.length T,zn,PR.far zr (cH J bl _ _) (λq e=>rn) D,?_⟩;exact Tx
       clear k3 zi kc kf ze zr ce cf c3;go_wp2;go_end0;show cZ _ _ _ _ _ _ _ _ _;rw[o.out];exact⟨rfl,zS⟩
    ·have v:Hid (aC s (f+1) up a st=.ok d):=by show _=_;rw[n.out];rfl
     clear CL n;go_wp2;go_end0;show cZ _ _ _ _ _ _ _ _ _;rw[v.out];exact⟨rfl,x⟩
  ·have n:Hid (aC s (f+1) up a st=lD s l g (aC s f (g:Int) (a+1)) ⟨ao s k 123,L1,I⟩):=by show _=_;rw[Z.out];unfold Lt;rw[if_neg hq];rfl
   rw[show aR s k 123=false by grind]at CT;clear hq Z;go_wp2_with fail;refine CT.mono ?_;rintro e w6 ⟨rfl,h6⟩;obtain⟨d,y⟩:∃z:PS,⟨ao s k 123,L1,I⟩=z:=⟨_,rfl⟩;have zZ:a+1<=d.i:=by rw[<-y];show a+1<=ao s k 123;omega
   have Ts:s.size<f+d.i:=by rw[<-y];show s.size<f+ao s k 123;omega
   have U:g<d.L.length:=by rw[<-y];show g<L1.length;omega
   rw[y]at h6 n;have x:=qH<|h6;clear h6 CT y zC Um zG Ug Ui zB;have zX:l=0\/l=1\/l=2\/l=3\/l=4\/l=5\/l=6:=dg
   have zt:((a+1:Nat):Int)=(a:Int)+1:=dg;have Xb:(a:Int)+1<=1000000:=by have:=x.2.2.1.il;omega
   have CL:Hid (Cw 168 #[Pq m,Iq (g:Int),Iq ((a:Int)+1)] w6 λe w'=>cZ V w' e m ab B E s (eX s (aC s f (g:Int) (a+1)) d)):=by have:=nj m ab B E s f zD dg g (a+1) d V w6 x U zZ Ts;rw[zt]at this;exact this
   rcases zX with rfl|rfl|rfl|rfl|rfl|rfl|rfl;iterate 3
    ·have v:Hid (aC s (f+1) up a st=eX s (aC s f (g:Int) (a+1)) d):=by show _=_;rw[n.out];rfl
     obtain⟨R,hR⟩:=af (eX s (aC s f (g:Int) (a+1)) d);rw[hR]at CL v;clear hR n;go_wp2_with fail;refine CL.mono ?_;cases R with
     |error b=>rintro e J ⟨rfl,f7⟩;refine⟨rfl,?_⟩;rw[v.out];exact⟨rfl,f7⟩
     |ok C=>rintro e J ⟨rfl,N⟩;have zQ:=qH<|N;clear N CL;go_wp2;go_end0;show cZ _ _ _ _ _ _ _ _ _;rw[v.out];exact⟨rfl,zQ⟩
   iterate 2
    ·by_cases hb:aR s d.i 91=true
     ·have K:Hid (Cw 167 #[Pq m,.int .u8 91] w6 λe w'=>cZ V w' e m ab B E s (cV s d 91)):=du 91 x dg dg;have e1:cV s d 91=.ok {d with i:=ao s d.i 91}:=by unfold cV;rw[if_pos hb]
      rw[e1]at K;obtain⟨C,F⟩:∃z:PS,{d with i:=ao s d.i 91}=z:=⟨_,rfl⟩;have z1:d.i<=C.i:=by rw[<-F];exact cJ _ _ _
      have z2:C.L.length=d.L.length:=by rw[<-F]
      rw[F]at K;have v:Hid (∀r,aC s f (g:Int) (a+1) C=r->aC s (f+1) up a st=lE r λM=>cV s M 93):=λr hr=>by rw[n.out];show mz s (aC s f (g:Int) (a+1)) d=_;grind[mz]
      clear e1 F hb CL n;go_wp2_with fail;refine K.mono ?_;rintro e J ⟨rfl,N⟩;have CN:Hid (Cw 92 #[Pq m,Iq (g:Int),Iq ((a:Int)+1)] J λe w'=>cZ V w' e m ab B E s (aC s f (g:Int) (a+1) C)):=by have:=zD (g:Int) (a+1) C V J N (.inr ⟨dg,dg⟩) dg dg;rw[zt]at this;exact this
      clear N K;cases P:aC s f (g:Int) (a+1) C with
      |error b=>have o:Hid (aC s (f+1) up a st=.error b):=v _ P;rw[P]at CN;clear P v;go_wp2_with fail;refine CN.mono ?_;rintro e x8 ⟨rfl,f8⟩;refine⟨rfl,?_⟩;rw[o.out];exact⟨rfl,f8⟩
      |ok M=>
       have o:Hid (aC s (f+1) up a st=cV s M 93):=v _ P;rw[P]at CN;clear P v;go_wp2_with fail;refine CN.mono ?_;rintro e x8 ⟨rfl,h8⟩;have K:Hid (Cw 167 #[Pq m,.int .u8 93] x8 λe w'=>cZ V w' e m ab B E s (cV s M 93)):=du 93 h8 dg dg;obtain⟨R,hR⟩:=af (cV s M 93);rw[hR]at K o;clear h8 CN hR;go_wp2_with fail;refine K.mono ?_;cases R with
       |error b=>rintro e x9 ⟨rfl,f9⟩;refine⟨rfl,?_⟩;rw[o.out];exact⟨rfl,f9⟩
       |ok Y0=>rintro e x9 ⟨rfl,h9⟩;have zR:=qH<|h9;clear h9 K;go_wp2;go_end0;show cZ _ _ _ _ _ _ _ _ _;rw[o.out];exact⟨rfl,zR⟩
     ·have K:Hid (Cw 167 #[Pq m,.int .u8 91] w6 λe w'=>cZ V w' e m ab B E s (cV s d 91)):=du 91 x dg dg;have e1:cV s d 91=.error (sk s d.i):=by unfold cV;rw[if_neg hb]
      rw[e1]at K;have o:Hid (aC s (f+1) up a st=.error (sk s d.i)):=by show _=_;rw[n.out];show mz s (aC s f (g:Int) (a+1)) d=_;unfold mz;rw[if_neg hb]
      clear e1 hb CL n;go_wp2_with fail;refine K.mono ?_;rintro e J ⟨rfl,f7⟩;refine⟨rfl,?_⟩;rw[o.out];exact⟨rfl,f7⟩
   ·obtain⟨H,kn,u,fr,nv,zn,pr,pn⟩:=x.out;obtain⟨bl,T,rfl,zF,zj,_,_⟩:=pn.nr.form dg;have G:=qH<|H;have S:=qH<|pr;have HPN:=qH<|pn;have CS:Hid (∀W,PR W m s d.i (Sq ab 12 12) (Sq bl d.L.length T) (dL E d.er)->W.cell? (aq 7 0)=some (aS (E 2))->Cw 166 #[Pq m] W λe w'=>Jv W w' e m s (Sq ab 12 12) (Sq bl d.L.length T) (dL E d.er) (E 2) (jJ s d.i)):=λW h1 h2=>iZ m s d.i _ _ _ (E 2) W h1 dg u.il dg h2;have zm:=qH<|u;clear H kn u fr pr pn CL;cases A:jJ s d.i with
    |error b=>
     have o:Hid (aC s (f+1) up a st=.error b):=by show _=_;rw[n.out];show fO s g d=_;unfold fO;rw[A]
     rw[A]at CS;clear A n;have c3:=S.c3;have zI:(g:Int)<(d.L.length:Int):=dg;go_wp2_with fail;go_region_dies;all_goals refine(CS _ (S.drewN 1) G.g2).mono ?_;rintro e J ⟨g7,rfl⟩;refine⟨rfl,?_⟩;rw[o.out];exact⟨rfl,x.2.2.2.1.trans ((Fr.drewN B m w6 1).trans (Fr.grown g7 G.le))⟩
    |ok r=>
     obtain⟨i2,tt⟩:=r;have o:Hid (aC s (f+1) up a st=.ok {d with i:=i2,L:=am d.L g tt}):=by show _=_;rw[n.out];show fO s g d=_;unfold fO;rw[A]
     have zP:=qH<|(qh (s:=s) (idx:=g) zm (by unfold fO;rw[A])).good;rw[A]at CS;clear A n;have c3:=S.c3;have zI:(g:Int)<(d.L.length:Int):=dg
     have ce:=HPN.nr.cells bl rfl g U 13 _ (Bp (HPN.len g U));obtain⟨ov,zx⟩:∃z:BY,⟨(ae d.L g).text.toArray⟩=z:=⟨_,rfl⟩;rw[zx]at ce;have cf:w6.frozen? (aq bl (g*16+13))=false:=HPN.nr.frz rfl _;have WZ:bl≠m:=dg;clear zx;go_wp2_with fail;go_region_with(first|(go_at_call 166;refine(CS _ (S.drewN 1) G.g2).mono ?_;rintro e J ⟨g7,rfl,N⟩;have zr:=qH<|N;have ze:=qH<|g7;have k3:=N.c3;have zi:J.heap[bl]?=w6.heap[bl]?:=g7.block bl zj rn;have kc:=(aO zi).trans ce;have kf:=(ji zi).trans cf;clear N g7));all_goals
      have zS:Hid (Mem V (J.setCell (aq bl (g*16+13)) (.string ⟨tt.toArray⟩)) m ab B E s {d with i:=i2,L:=am d.L g tt}):=by
       have O:=(Fr.drewN B m w6 1).trans (Fr.grown ze G.le);have zg:Fr B m w6 (J.setCell (aq bl (g*16+13)) (.string ⟨tt.toArray⟩)):=O.trans (Fr.own (cH J bl _ _) (az G.le O.size) (λq e=>rn));have Tw:=(HPN.up (Up.drewN B w6 1)).up (Up.grown ze D);have Tx:=Tw.setText U tt;have Yr:(am d.L g tt).length=d.L.length:=by unfold am;simp
       refine⟨G.fr zg,x.2.1.fr zg D zq,zP,x.2.2.2.1.trans zg,Sq bl d.L.length T,zn,PR.far zr (cH J bl _ _) (λq e=>rn) D,?_⟩;exact Tx
      clear k3 zi kc kf ze zr ce cf c3;go_wp2;go_end0;show cZ _ _ _ _ _ _ _ _ _;rw[o.out];exact⟨rfl,zS⟩
   ·have v:Hid (aC s (f+1) up a st=.ok d):=by show _=_;rw[n.out];rfl
    clear CL n;go_wp2;go_end0;show cZ _ _ _ _ _ _ _ _ _;rw[v.out];exact⟨rfl,x⟩
theorem lH b ab B E s(c:s.size<=100000):∀f,Ak b ab B E s f
 |0=>λup a st g w h d hd e=>absurd h.2.2.1.il dg
 |f+1=>qZ b ab B E s f (lH b ab B E s c f) c
def vU(s:BY)(st:PS):Except (Option (Nat×Nat)) (List Nd):=if sk s st.i<s.size then .error (some (2,sk s st.i))else match st.er with
 |some f=>.error (some f)
 |none=>.ok st.L
def Nb(s:BY):Except Nat PS->Except (Option (Nat×Nat)) (List Nd)
 |.error b=>.error (some (2,b))
 |.ok st=>vU s st
def bj(s:BY):Except (Option (Nat×Nat)) (List Nd):=if 4000<s.size then .error none else Nb s (aC s (s.size+1) (-1) 0 ⟨0,[],none⟩)
def pv(E:zzi):Option (Nat×Nat)->Fd
 |none=>aS (E 1)
 |some (c,p)=>cj (p:Int) (aS (E c))
def MD(w w':AT)(e:Ending)(E:zzi)(r:Except (Option (Nat×Nat)) (List Nd)):Prop:=Bq w w'/\match r with
 |.error x=>e=.panicked [{v:=pv E x,recovered:=false}]
 |.ok L=>∃nv KV,e=Rw nv/\PN w' w.heap.size nv L KV
structure rj(W:AT)(E:zzi):Prop where
 sz:9<=W.heap.size
 kn:Kn W
 g1:W.cell? (aq 0 0)=some (aS (E 1))
 g2:W.cell? (aq 7 0)=some (aS (E 2))
 g3:W.cell? (aq 1 0)=some (aS (E 3))
 g4:W.cell? (aq 2 0)=some (aS (E 4))
 g5:W.cell? (aq 3 0)=some (aS (E 5))
 g6:W.cell? (aq 4 0)=some (aS (E 6))
 g7:W.cell? (aq 5 0)=some (aS (E 7))
theorem OL(W:AT)s a E:PR (W.alloc (.cells #[.string s,Iq 0,a,.slice none 0 0,.nilIface] 192)) W.heap.size s 0 a (.slice none 0 0) (dL E none):=
 ⟨At,by simp_all,by simp_all,by simp_all,by simp_all,by rw[World.cell?_alloc_at _ _ _ _ rfl];rfl,λj=>frozen_of_row _ _ _ _ _ (heap_alloc_new _ _)⟩
theorem PN.base{W}{B d}{k}{L}{KV}(h:PN W B k L KV)(m:d<=B):PN W d k L KV:=by
 obtain⟨q,p⟩:=h.nr.row;have own:∀{e:TypeId} {size n:Nat} {v:Fd} {i:List Fd},W.ownsRow B e size v n i->W.ownsRow d e size v n i:=fun{e size n v i} h=>⟨h.1,by
  rcases h.2 with l|⟨g,cap,f,a,b,c⟩;·exact .inl l
  ·exact .inr ⟨g,cap,f,a,az m b,c⟩⟩;exact⟨⟨⟨q,own p⟩,h.nr.cells,h.nr.len,λj o=>own (h.nr.kids j o),h.nr.sep⟩,h.len⟩
theorem readTree_any(s:BY)(E:zzi)(w:AT)(hG:rj w E):
 Calls prog 57 #[.string s] w λe w'=>MD w w' e E (bj s):=by
 by_cases t:4000<s.size
 ·have N:Hid (bj s=.error none):=by show _=_;unfold bj;rw[if_pos t]
  have zm:(4000:Int)<(s.size:Int):=dg;have g1:w.cell? (aq 0 0)=some (.iface 460 (.pointer (some (E 1)))):=hG.g1;clear hG;go_enter func57,ntmps57;go_wp2;refine⟨rfl,?_⟩;rw[N.out];exact⟨ac _ _,rfl⟩
 ·have zm:¬(4000:Int)<(s.size:Int):=dg
  have zr:(s.size:Int)<=4000:=dg;have d:=qH<|hG;have N:Hid (bj s=Nb s (aC s (s.size+1) (-1) 0 ⟨0,[],none⟩)):=by show _=_;unfold bj;rw[if_neg t]
  obtain⟨A,G⟩:=af w.heap.size;have CA:Hid (Calls prog 91 #[] w λe w'=>e=.returned (Sq A 12 12)/\w'=w.alloc (.cells gC 259)):=by have:=oL w;rw[G]at this;exact this
  have HT:Hid (Ev (w.alloc (.cells gC 259)) A):=by have:=Ma w;rw[G]at this;exact this
  have C:Hid (Below A w (w.alloc (.cells gC 259))):=by show Below _ _ _;rw[<-G];exact(ac _ _).alloc (ad _) _
  obtain⟨w1,M⟩:=af (w.alloc (.cells gC 259));have K:w1.heap.size=A+1:=by rw[<-M,ai,G]
  rw[M]at CA HT C;have R:=qH<|G;have zn:=hG.sz;rw[G]at zn;clear hG M G;go_enter func57,ntmps57;go_wp2_with fail;refine CA.mono ?_;rintro e zu ⟨rfl,hw⟩;obtain rfl:=hw.symm;go_wp2_with fail;obtain⟨h,m⟩:=af (w1.alloc (.cells #[.string s,Iq 0,Sq A 12 12,.slice none 0 0,.nilIface] 192));have zt:h.heap.size=A+2:=by rw[<-m,ai,K]
  have D:Hid (Below A w h):=by rw[<-m];exact C.alloc dg _
  have zj:Hid (PR h (A+1) s 0 (Sq A 12 12) (.slice none 0 0) (dL E none)):=by rw[<-m,<-K];exact OL _ _ _ _
  have zk:Hid (Ev h A):=by have:=HT.fr (Fr.below (B:=A+1) (r:=A+1) ((ac w1.heap.size w1).alloc (ad _) (.cells #[.string s,Iq 0,Sq A 12 12,.slice none 0 0,.nilIface] 192)) dg) dg dg;rw[m]at this;exact this
  have H:∀(g:Nat) v,g<9->w.cell? (aq g 0)=some v->h.cell? (aq g 0)=some v:=λg v hg e=>(D.cell (p:=(aq g 0)) rn).trans e;have zg:Hid (Mm h (A+1) A (A+2) E):=⟨zk,dg,dg,dg,dg,dg,H _ _ (by decide) d.g2,H _ _ (by decide) d.g3,H _ _ (by decide) d.g4,H _ _ (by decide) d.g5,H _ _ (by decide) d.g6,H _ _ (by decide) d.g7⟩;have zh:Hid (Kn h):=λj hj=>(D.cell (p:=(aq 8 j)) rn).trans (d.kn j hj);have HM:Hid (Mem h h (A+1) A (A+2) E s ⟨0,[],none⟩):=⟨zg,zh,⟨aP _,ad _,λj=>aP _⟩,Fr.refl _ _ _,_,λ_=>.nilFunc,zj,⟨NR.nothing _ _ _ _ _ _ _,λj hj=>absurd hj rn⟩⟩;have Q:Hid (Calls prog 92 #[Pq (A+1),Iq (-1),Iq 0] h λe w'=>cZ h w' e (A+1) A (A+2) E s (aC s (s.size+1) (-1) 0 ⟨0,[],none⟩)):=lH (A+1) A (A+2) E s dg (s.size+1) (-1) 0 ⟨0,[],none⟩ h h HM (.inl rfl) (ad _) dg;have u:Hid (∀w',Fr (A+2) (A+1) h w'->Below w.heap.size w w'):=λw' f=>by rw[R.out];exact D.trans ⟨f.os,f.tape,f.output,f.size,λk hk=>f.block k dg dg⟩
  have V:Hid (∀W,W.cell? (aq 7 0)=some (aS (E 2))->∀(q:Nat),Calls prog 94 #[Iq (q:Int)] W λe w'=>e=.returned (.iface 186 (.agg #[Iq (q:Int),.iface 460 (.pointer (some (E 2)))]))/\w'=W):=λW he q=>dP _ W (E 2) he;rw[m];clear m H HT C CA K;cases O:aC s (s.size+1) (-1) 0 ⟨0,[],none⟩with
  |error b=>
   have y:Hid (bj s=.error (some (2,b))):=by show _=_;rw[N.out,O];rfl
   rw[O]at Q;clear O N;refine Q.mono ?_;rintro e w3 ⟨rfl,f3⟩;refine⟨rfl,?_⟩;rw[y.out];exact⟨u _ f3,rfl⟩
  |ok st=>
   have y:Hid (bj s=vU s st):=by show _=_;rw[N.out,O];rfl
   rw[O]at Q;clear O N;refine Q.mono ?_;rintro e w3 ⟨rfl,z,zo,o,U,nv,KV,Y,X⟩;have CB:=qH<|skipBlanks_any (A+1) s st.i _ nv _ w3 Y dg o.il;have x:=qH<|z;have S:=qH<|U;have T:=qH<|X;obtain⟨P,I⟩:=af (sk s st.i);have a:Hid (bj s=if P<s.size then .error (some (2,P))else match st.er with
    |some f=>.error (some f)
    |none=>.ok st.L):=by show _=_;rw[y.out];unfold vU;rw[I]
   rw[I]at CB;clear z zo o U Y X Q I y;go_wp2_with fail;refine CB.mono ?_;rintro e w4 ⟨rfl,h4,Z⟩;have F:=qH<|S.trans (Fr.grown Z x.le);have zi:=qH<|T.up (Up.grown Z dg);have ze:=qH<|x.fr (Fr.grown Z x.le);have c1:=h4.c1;have c3:=h4.c3;have c4:=h4.c4;clear h4 Z CB S T x;by_cases J:P<s.size
   ·have zq:(P:Int)<(s.size:Int):=dg
    have n:Hid (bj s=.error (some (2,P))):=by show _=_;rw[a.out,if_pos J]
    clear a;go_wp2_with fail;refine(V _ ze.g2 P).mono ?_;rintro e w5 ⟨rfl,hw⟩;obtain rfl:=hw.symm;go_wp2;refine⟨rfl,?_⟩;rw[n.out];exact⟨u _ F,rfl⟩
   ·cases l:st.er with
    |none=>
     have n:Hid (bj s=.ok st.L):=by show _=_;rw[a.out,if_neg J,l]
     rw[l]at c4;have zl:w4.cell? (aq (A+1) 4)=some .nilIface:=c4;clear a c4 l;go_wp2;go_ret;show MD _ _ _ _ _;rw[n.out];exact⟨u _ F,nv,KV,rfl,zi.base (by rw[R.out];omega)⟩
    |some fp=>
     obtain⟨c,q⟩:=fp;have n:Hid (bj s=.error (some (c,q))):=by show _=_;rw[a.out,if_neg J,l]
     rw[l]at c4;have zl:w4.cell? (aq (A+1) 4)=some (.iface 186 (.agg #[Iq (q:Int),.iface 460 (.pointer (some (E c)))])):=c4;clear a c4 l;go_wp2;refine⟨rfl,?_⟩;rw[n.out];exact⟨u _ F,rfl⟩
def wT(name:BY)(kind:Nat):Option Nat:=if aE cm name 0<0\/iY kind (aE cm name 0).toNat=false then none else some (aE cm name 0).toNat
theorem qc j a(d:j<12)(e:a<7):di (fw j) a 12 0=wT (fw j) a:=by
 have b:j=0\/j=1\/j=2\/j=3\/j=4\/j=5\/j=6\/j=7\/j=8\/j=9\/j=10\/j=11:=dg;have c:a=0\/a=1\/a=2\/a=3\/a=4\/a=5\/a=6:=dg;rcases b with rfl|rfl|rfl|rfl|rfl|rfl|rfl|rfl|rfl|rfl|rfl|rfl<;>rcases c with rfl|rfl|rfl|rfl|rfl|rfl|rfl<;>decide
theorem lR{name}b(h:∀j,j<12->fw j≠name):di name b 12 0=none/\aE cm name 0=-1:=by
 have i:∀f j,j+f<=12->di name b f j=none:=λf=>by
  induction f with
  |zero=>intro j _;rfl
  |succ f m=>grind[di]
 have d:∀(c:List BY) k,(∀x∈c,x≠name)->aE c name k=-1:=λc=>by
  induction c with
  |nil=>intro k _;rfl
  |cons a r m=>grind[aE]
 refine⟨i 12 0 dg,d cm 0 (λx l=>?_)⟩;obtain⟨j,e,rfl⟩:=List.getElem_of_mem l;have g:j<12:=e;grind[fw]
theorem L6 name a(b:a<7):di name a 12 0=wT name a:=by grind[fw,qc,lR,wT]
theorem C'{name}(h:¬aE cm name 0<0):(aE cm name 0).toNat<12/\fw (aE cm name 0).toNat=name:=by
 by_cases b:∃j,j<12/\fw j=name
 ·obtain⟨j,a,rfl⟩:=b;have c:j=0\/j=1\/j=2\/j=3\/j=4\/j=5\/j=6\/j=7\/j=8\/j=9\/j=10\/j=11:=dg
  rcases c with rfl|rfl|rfl|rfl|rfl|rfl|rfl|rfl|rfl|rfl|rfl|rfl<;>decide
 ·exact absurd (by rw[(lR (name:=name) 0 (λj a e=>b ⟨j,a,e⟩)).2];decide) h
theorem OD{i j}(hi:i<12)(c:j<12)(h:fw i=fw j):i=j:=by
 have b:i=0\/i=1\/i=2\/i=3\/i=4\/i=5\/i=6\/i=7\/i=8\/i=9\/i=10\/i=11:=dg;have a:∀i,i<12->(aE cm (fw i) 0).toNat=i:=by decide
 grind
theorem uI b x y:∀k,(0<=aE (b++[y]) x k↔(0<=aE b x k\/y=x)):=by
 induction b with
 |nil=>grind[aE]
 |cons a r c=>grind[aE]
theorem Ck f c p c2 a:gA (gA f c p) c2 a=gA f c p:=by cases f<;>rfl
theorem gX b f c p c2 a:dl b (gA f c p) c2 a=gA f c p:=by grind[dl,Ck]
theorem ui{f:fA}(h:f≠none)c p:gA f c p=f:=by cases f with
 |none=>grind
 |some x=>rfl
theorem k6 f c p:gA f c p≠none:=by cases f<;>simp[gA]
theorem Af L b a up e n:(grown L ⟨b,a,[],[],up⟩).modify L.length (λd=>{d with attr:=d.attr.set e n})=grown L ⟨b,a.set e n,[],[],up⟩:=by
 have g:∀(M:zza) (d:Nd) (f:Nd->Nd),M.length=L.length->(M++[d]).modify L.length f=M++[f d]:=λM d f h=>by apply IL;grind
 grind[grown]
theorem uO L d:(grown L d).map (λx=>x.attr)=L.map (λx=>x.attr)++[d.attr]:=by
 unfold grown;split;·simp
 ·rw[lU];congr 1;apply IL;grind
theorem rG L k n:ee L k n=(L.map λx=>x.attr).any λa=>a[k]?.getD 0==n:=by grind[ee]
theorem uS L d n:ee (grown L d) 0 n=(jP L n||(d.attr[0]?.getD 0==n)):=by rw[rG,uO,List.any_append,<-rG,xZ];simp
structure Eh(kind:Nat)(up:Int)(L:zza)(er:fA)(a:zzc)(seen:zzh)(L':zza)(ws:List BY):Prop where
 len:L'.length=L.length+1
 same:er=none->L'=grown L ⟨kind,a,[],[],up⟩
 q:∀ix,ix<12->iY kind ix=true->(seen.contains ix=true↔0<=aE ws (fw ix) 0)
 z:seen.contains 0=false->a[0]?.getD 0=0
def Wp(kind:Nat)(up:Int)(L:zza)(ws:List BY)(r:Except Nat (Nat×fA×List Int×List Nat))(r':Except Nat (Nat×fA×List Nd×BY)):Prop:=match r,r' with
 |.error b,.error b'=>b=b'
 |.ok (i,er,a,seen),.ok (i',Sh,L',t)=>i=i'/\er=Sh/\Eh kind up L er a seen L' (ws++[t])
 |_,_=>False
theorem M7 a:kJ a=iX[a]?.getD 0:=rfl
theorem Co{s}{f}{up}{L}{m}{a}{seen}{p}{C}(hk:f<7)(h:Eh f up L m a seen p C)i:
 Wp f up L C (fD s f L i m a seen) (dx s f C p L.length i m):=by
 unfold fD dx;simp only[];by_cases A:run ap s (sk s i)=sk s i;·rw[if_pos A,if_pos A];rfl
 ·rw[if_neg A,if_neg A];obtain⟨at_,zh⟩:=af (sk s i);obtain⟨k,zj⟩:=af (run ap s at_);obtain⟨t,ht⟩:=af (s.extract at_ k);rw[zh,zj,ht];unfold dV;by_cases W:aR s k 61=true
  ·rw[if_pos W,if_pos W];unfold nW;simp only[];obtain⟨B,M⟩:=af (sk s (ao s k 61));obtain⟨e2,H⟩:=af (run aL s B);rw[M,H];by_cases U:ie s B e2=true;·rw[if_pos U,if_pos U];rfl
   ·rw[if_neg U,if_neg U];obtain⟨n,hn⟩:=af (dv s B (e2-B));rw[hn];have l:=L6 t f hk;unfold wT at l;by_cases r:aE cm t 0<0\/iY f (aE cm t 0).toNat=false
    ·rw[if_pos r];rw[if_pos r]at l;have w:nP t f C=some 7:=by unfold nP;rw[l]
     rw[w];refine⟨rfl,rfl,h.len,λe=>absurd e (k6 _ _ _),λg x how=>?_,h.z⟩;rw[h.q g x how,uI];constructor;·omega
     ·rintro(q|rfl);·exact q
      ·exfalso;rcases r with h1|h1
       ·have T:=(qc g f x hk);rw[l]at T;unfold wT at T;rw[if_neg (by
         have zm:∀i,i<12->¬aE cm (fw i) 0<0:=by decide
         grind)]at T;cases T
       ·have zm:∀i,i<12->(aE cm (fw i) 0).toNat=i:=by decide
        grind
    ·rw[if_neg r];rw[if_neg r]at l;have Q:¬aE cm t 0<0:=λq=>r (.inl q);have how:iY f (aE cm t 0).toNat=true:=by
      cases ho:iY f (aE cm t 0).toNat with
      |true=>rfl
      |false=>grind
     obtain⟨x,O⟩:=C' Q;obtain⟨g,K⟩:=af ((aE cm t 0).toNat);have J:aE cm t 0=(g:Int):=dg;rw[K]at l how x O⊢;rw[J];have F:=h.q g x how;rw[O]at F;have zg:sS t f=g:=by unfold sS;rw[l];rfl
     rw[zg];have j:∀v,v<12->iY f v=true->((g::seen).contains v=true↔0<=aE (C++[t]) (fw v) 0):=λv I P=>by rw[uI,<-h.q v I P,List.contains_cons];grind[OD]
     have y:(g::seen).contains 0=false->(a.set g n)[0]?.getD 0=0:=λe=>by
      rw[List.contains_cons]at e;simp only[Bool.or_eq_false_iff]at e;have zk:g≠0:=λq=>rn;rw[qm zk];exact h.z e.2
     have zo:0<=n:=by have:=(QK s (ao s k 61) (-1)).1;unfold nV at this;rw[if_pos (by decide),M,H,hn]at this;exact this
     by_cases V:seen.contains g=true
     ·have hf:=F.1 V;have w:nP t f C=some 5:=by unfold nP;rw[l];simp only[if_pos hf]
      rw[w,V];have X:dl true m 5 at_=gA m 5 at_:=rfl;rw[X,gX,gX];exact⟨rfl,rfl,h.len,λe=>absurd e (k6 _ _ _),j,y⟩
     ·have hf:¬0<=aE C t 0:=λq=>V (F.2 q);have w:nP t f C=none:=by unfold nP;rw[l];simp only[if_neg hf]
      have G:seen.contains g=false:=by simpa using V
      rw[w,G];have X:dl false m 5 at_=m:=rfl;rw[X];show _=_/\_=_/\Eh f up L _ _ _ _ _;by_cases N:kJ g<n
      ·have D:dl (decide (iX[g]?.getD 0<n)) m 6 B=gA m 6 B:=by rw[<-M7,decide_eq_true N];rfl
       have Y:tP p g n=some 6:=by unfold tP;rw[if_pos N]
       have S:setL p L.length g n=p:=by unfold setL;rw[if_pos (.inl N)]
       rw[D,gX,Y,S];exact⟨rfl,rfl,h.len,λe=>absurd e (k6 _ _ _),j,y⟩
      ·have D:dl (decide (iX[g]?.getD 0<n)) m 6 B=m:=by rw[<-M7,decide_eq_false N];rfl
       have Y:tP p g n=if setB p g n=true then some 5 else none:=by unfold tP;rw[if_neg N]
       have S:setL p L.length g n=if setB p g n=true then p else p.modify L.length λd=>{d with attr:=d.attr.set g n}:=by
        unfold setL;by_cases R:setB p g n=true;·grind
        ·grind
       rw[D,Y];by_cases E:m=none
       ·have Z:=h.same E;have R:setB p g n=(decide ((g:Int)=0/\0<n)&&jP L n):=by
         unfold setB;by_cases zi:g=0;·subst zi;have ze:=h.z G;rw[Z,uS];show((0:Nat)==0&&(n !=kT 0)&&(jP L n||(a[0]?.getD 0==n)))=_;rw[ze];have hw:kT 0=0:=rfl;grind
         ·grind[nZ]
        rw[<-R];by_cases u:setB p g n=true;·rw[if_pos u,S,if_pos u,u];exact⟨rfl,rfl,h.len,λe=>absurd e (k6 _ _ _),j,y⟩
        ·rw[if_neg u,S,if_neg u];have zl:setB p g n=false:=by simpa using u
         rw[zl];refine⟨rfl,rfl,by simpa using h.len,λ_=>?_,j,y⟩;grind[Af]
       ·have k1:∀b,dl b m 5 B=m:=λb=>by grind[dl,ui]
        have k2:∀o,gI m o B=m:=λo=>by cases o with
         |none=>rfl
         |some c=>exact ui E _ _
        rw[k1,k2];exact⟨rfl,rfl,by rw[nu];exact h.len,λe=>absurd e E,j,y⟩
  ·rw[if_neg W,if_neg W];rfl
theorem uY s i c:aR s (sk s i) c=aR s i c:=by unfold aR;rw[nw]
theorem uN s i c:ao s (sk s i) c=ao s i c:=by unfold ao;rw[nw]
theorem tj{s}{i c}(h:¬aR s i c=true):ao s i c=sk s i:=by grind[aR,ao]
def Ua(kind:Nat)(up:Int)(L:zza)(r:Except Nat (Nat×fA×List Int))(r':Except Nat (Nat×fA×List Nd)):Prop:=match r,r' with
 |.error b,.error b'=>b=b'
 |.ok (i,er,a),.ok (i',Sh,L')=>i=i'/\er=Sh/\L'.length=L.length+1/\(er=none->L'=grown L ⟨kind,a,[],[],up⟩)
 |_,_=>False
theorem ul{s}{c}{up}{L}(o:c<7):∀f i d a seen e g,Eh c up L d a seen e g->Ua c up L (cX s c L f i d a seen) (cY s c L.length f i d e g)
 |0,i,d,a,seen,e,g,h=>rfl
 |f+1,i,d,a,seen,e,g,h=>by
  have w:=Co (s:=s) o h i;unfold cX cY;revert w;cases fD s c L i d a seen with
  |error b=>
   cases dx s c g e L.length i d with
   |error p=>exact λq=>q
   |ok r=>exact λq=>q.elim
  |ok r=>
   obtain⟨l,u,z,n⟩:=r;cases dx s c g e L.length i d with
   |error p=>exact λq=>q.elim
   |ok x=>
    obtain⟨A,v,y,t⟩:=x;rintro⟨rfl,rfl,m⟩;show Ua c up L (if aR s l 59=true then _ else _) (if aR s l 59=true then _ else _);by_cases j:aR s l 59=true;·rw[if_pos j,if_pos j];exact ul o f _ _ _ _ _ _ m
    ·rw[if_neg j,if_neg j,tj j];unfold kO dV;rw[uY,uN,nw];by_cases k:aR s l 125=true;·rw[if_pos k,if_pos k];exact⟨rfl,rfl,m.len,m.same⟩
     ·rw[if_neg k,if_neg k];rfl
structure t_(a b:PS):Prop where
 i:a.i=b.i
 er:a.er=b.er
 len:a.L.length=b.L.length
 same:a.er=none->a.L=b.L
def xE(r r':Except Nat PS):Prop:=match r,r' with
 |.error b,.error b'=>b=b'
 |.ok a,.ok b=>t_ a b
 |_,_=>False
theorem t_.to{a b}(h:t_ a b)i:t_ {a with i:=i} {b with i:=i}:=⟨rfl,h.er,h.len,h.same⟩
theorem Fx{s:BY}{a b:PS}{c:Nat}(h:t_ a b):xE (match dV s a.i c with
 |.error e=>.error e
 |.ok i=>.ok {a with i:=i}) (cV s b c):=by
 unfold dV cV;rw[h.i];by_cases d:aR s b.i c=true;·rw[if_pos d,if_pos d];exact h.to _
 ·rw[if_neg d,if_neg d];rfl
theorem NK{s}{b}{c}:cV s {b with i:=sk s b.i} c=cV s b c:=by grind[cV,aR,sk,uY,ao,uN,nw]
theorem A'{s}{g d}(n:∀a b,t_ a b->xE (g a) (d b)):∀f a b,t_ a b->xE (fK s g f a) (fi s d f b)
 |0,a,b,h=>h.i
 |f+1,a,b,h=>by
  have p:=n a b h;unfold fK fi;revert p;cases g a with
  |error e=>
   cases d b with
   |error o=>grind
   |ok l=>exact λq=>q.elim
  |ok m=>
   cases d b with
   |error o=>exact λq=>q.elim
   |ok l=>
    intro r;have j:t_ m l:=r;show xE (if aR s m.i 44=true then _ else _) (if aR s l.i 44=true then _ else _);rw[j.i];by_cases k:aR s l.i 44=true;·rw[if_pos k,if_pos k];exact A' n f _ _ (j.to _)
    ·rw[if_neg k,if_neg k,tj k,NK];have:=Fx (s:=s) (c:=93) j;rw[j.i]at this;omega
theorem nU{L M}{d e}(h:L.length=M.length):(grown L d).length=(grown M e).length:=by grind[cP]
theorem Md{s:BY}{c:Nat}{a b:PS}(h:t_ a b):xE (match jJ s a.i with
 |.error e=>.error e
 |.ok (d,t)=>.ok {a with i:=d,L:=am a.L c t}) (fO s c b):=by
 unfold fO;rw[h.i];cases jJ s b.i with
 |error e=>rfl
 |ok r=>obtain⟨d,t⟩:=r;exact⟨rfl,h.er,by show(am a.L c t).length=(am b.L c t).length;unfold am;simpa using h.len,λq=>by show am a.L c t=am b.L c t;rw[h.same q]⟩
theorem Le{s:BY}{d c:PS->Except Nat PS}(k:∀a b,t_ a b->xE (d a) (c b)){a b:PS}(h:t_ a b):xE (match dV s a.i 91 with
 |.error e=>.error e
 |.ok j=>if aR s j 93 then .ok {a with i:=ao s j 93}else fK s d (s.size+1) {a with i:=sk s j}) (eX s c b):=by
 unfold dV eX;rw[h.i];by_cases g:aR s b.i 91=true
 ·rw[if_pos g,if_pos g];show xE (if aR s (ao s b.i 91) 93=true then _ else _) _;by_cases f:aR s (ao s b.i 91) 93=true;·rw[if_pos f,if_pos f];exact h.to _
  ·rw[if_neg f,if_neg f,tj f];exact A' k _ _ _ (h.to _)
 ·rw[if_neg g,if_neg g];rfl
theorem OH{s:BY}{f d:PS->Except Nat PS}(n:∀a b,t_ a b->xE (f a) (d b)){a b:PS}(h:t_ a b):xE (match dV s a.i 91 with
 |.error e=>.error e
 |.ok o=>match f {a with i:=o}with
  |.error e=>.error e
  |.ok g=>match dV s g.i 93 with
   |.error e=>.error e
   |.ok p=>.ok {g with i:=p}) (mz s d b):=by
 unfold dV mz;rw[h.i];by_cases j:aR s b.i 91=true
 ·rw[if_pos j,if_pos j];have m:=n _ _ (h.to (ao s b.i 91));unfold lE;revert m;show xE (f {a with i:=ao s b.i 91}) _->xE (match f {a with i:=ao s b.i 91}with
   |.error e=>.error e
   |.ok g=>_) _;cases f {a with i:=ao s b.i 91}with
  |error e=>
   cases d {b with i:=ao s b.i 91}with
   |error l=>grind
   |ok k=>exact λq=>q.elim
  |ok r=>
   cases d {b with i:=ao s b.i 91}with
   |error l=>exact λq=>q.elim
   |ok k=>exact λq=>Fx (s:=s) (c:=93) q
 ·rw[if_neg j,if_neg j];rfl
theorem Ay{s}{c f}{e d}(l:c<7)(k:∀a b,t_ a b->xE (e a) (d b)){a b}(h:t_ a b):xE (iP s c f e a) (lD s c f d b):=by
 unfold iP lD;by_cases i:c<3;·rw[if_pos i,if_neg dg,if_neg dg,if_neg dg];exact Le k h
 ·rw[if_neg i];by_cases j:c<5;·rw[if_pos j,if_neg dg,if_neg dg,if_pos dg];exact OH k h
  ·rw[if_neg j];by_cases g:c=5;·rw[if_pos g,if_pos g];exact Md h
   ·rw[if_neg g,if_neg g,if_pos dg];exact h
theorem Hx b n a p:dl (decide (12<=a)) (dl (decide (100<=n)) b 3 p) 4 p=gI b (iz n a) p:=by
 unfold iz;by_cases c:100<=n;·rw[decide_eq_true c,if_pos c];show dl _ (gA b 3 p) 4 p=_;rw[gX];rfl
 ·rw[decide_eq_false c,if_neg c];show dl _ b 4 p=_;by_cases d:12<=a;·rw[decide_eq_true d,if_pos d];rfl
  ·rw[decide_eq_false d,if_neg d];rfl
theorem tB{s}{i}(e:run ap s (sk s i)=sk s i):cQ s i<0:=by
 have:kU s i=ByteArray.empty:=by unfold kU;rw[e];apply jZ;simp
 unfold cQ;rw[this];decide
theorem yq{a}{o}{p}(h:gI a o p=none):a=none:=by
 cases o with
 |none=>exact h
 |some c=>exact absurd h (k6 _ _ _)
theorem Bg{s}:∀f  up  c a b,t_ a b->xE (fZ s f up c a) (aC s f up c b)
 |0,up,c,a,b,h=>h.i
 |f+1,up,c,a,b,h=>by
  unfold fZ aC;simp only[];rw[h.i,h.len];have v:aE dt (s.extract (sk s b.i) (run ap s (sk s b.i))) 0=cQ s b.i:=rfl;rw[v];by_cases g:cQ s b.i<0;·rw[if_pos (.inr g),if_pos g];rfl
  ·have t:¬run ap s (sk s b.i)=sk s b.i:=λe=>g (tB e);rw[if_neg (by rintro(q|q);exact t q;exact g q),if_neg g];have H:=rN s b.i;obtain⟨d,n⟩:=af ((cQ s b.i).toNat);have p:d<7:=dg
   obtain⟨k,u⟩:=af (run ap s (sk s b.i));rw[n,u,Hx,h.er];obtain⟨j,m⟩:=af (gI b.er (iz b.L.length c) (sk s b.i));rw[m];have A:=λq=>h.same (by rw[h.er];exact yq (m.trans q));have l:∀x y,t_ x y->xE (fZ s f (b.L.length:Int) (c+1) x) (aC s f (b.L.length:Int) (c+1) y):=λx y w=>Bg f _ _ x y w;unfold lZ Lt;by_cases o:aR s k 123=true;·rw[if_pos o,if_pos o];have F:Eh d up a.L j aN [] (grown b.L ⟨d,aN,[],[],up⟩) []:=⟨by rw[cP,h.len],λq=>by rw[A q],λQ G how=>by simp[aE],λ_=>rfl⟩;have B:=ul (s:=s) p (s.size+1) (ao s k 123) j aN [] _ [] F;rw[h.len]at B;revert B;cases N:cX s d a.L (s.size+1) (ao s k 123) j aN []with
    |error e=>
     cases cY s d b.L.length (s.size+1) (ao s k 123) j (grown b.L ⟨d,aN,[],[],up⟩) []with
     |error C=>exact λq=>q
     |ok r=>exact λq=>q.elim
    |ok r=>
     obtain⟨O,D,M⟩:=r;cases hy:cY s d b.L.length (s.size+1) (ao s k 123) j (grown b.L ⟨d,aN,[],[],up⟩) []with
     |error C=>exact λq=>q.elim
     |ok K=>obtain⟨P,E,z⟩:=K;rintro⟨rfl,rfl,I,J⟩;exact Ay p l ⟨rfl,rfl,by show(grown a.L _).length=z.length;rw[cP,I],λq=>by show grown a.L _=z;exact(J q).symm⟩
   ·rw[if_neg o,if_neg o,tj o];exact Ay p l ⟨rfl,rfl,nU h.len,λq=>by show grown a.L _=grown b.L _;rw[A q]⟩
def conv:Except (Option (Nat×Nat)) (List Nd)->Except (Nat×Nat) (List Nd)
 |.ok L=>.ok L
 |.error none=>.error (1,0)
 |.error (some f)=>.error f
theorem BG s:conv (bj s)=lF s:=by
 unfold bj lF;by_cases d:4000<s.size;·rw[if_pos d,if_pos d];rfl
 ·rw[if_neg d,if_neg d];have h:=Bg (s:=s) (s.size+1) (-1) 0 ⟨0,[],none⟩ ⟨0,[],none⟩ ⟨rfl,rfl,rfl,λ_=>rfl⟩;revert h;cases fZ s (s.size+1) (-1) 0 ⟨0,[],none⟩with
  |error b=>
   cases aC s (s.size+1) (-1) 0 ⟨0,[],none⟩with
   |error g=>rintro rfl;rfl
   |ok st=>exact λq=>q.elim
  |ok a=>
   cases aC s (s.size+1) (-1) 0 ⟨0,[],none⟩with
   |error g=>exact λq=>q.elim
   |ok b=>
    intro h;have c:t_ a b:=h;show conv (vU s b)=if sk s a.i<s.size then _ else _;unfold vU;rw[c.i,c.er];by_cases e:sk s b.i<s.size;·rw[if_pos e,if_pos e];rfl
    ·rw[if_neg e,if_neg e];cases j:b.er with
     |some f=>rfl
     |none=>show Except.ok b.L=Except.ok a.L;rw[c.same (by rw[c.er,j])]
def CR(f:fA):Prop:=∀c p,f=some (c,p)->2<=c/\c<=7
theorem CR.none:CR none:=λc p e=>by cases e
theorem CR.add{f}(h:CR f){c}(a:2<=c/\c<=7)p:CR (gA f c p):=by
 cases f with
 |none=>intro b d e;cases e;exact a
 |some x=>exact h
theorem CR.addI{f}(h:CR f)b{c}(a:2<=c/\c<=7)p:CR (dl b f c p):=by
 cases b with
 |false=>exact h
 |true=>exact h.add a p
theorem PP{b}{L}{c}{a}{seen}{st}(h:CR c):CR (fa b L c a seen st).1:=by
 unfold fa;split;·exact h.add dg _
 ·exact((h.addI _ dg _).addI _ dg _).addI _ dg _
theorem EL{s}{b}{L}{i}{d}{a}{seen}{e}{c}{f}{j}(h:CR d)(hh:fD s b L i d a seen=.ok (e,c,f,j)):CR c:=by rcases oK s b L i d a seen (-1) dg with⟨_,g⟩|⟨_,g⟩;all_goals grind[PP,bu]
theorem ru{s}{d}{L}:∀  f i   g   a   seen   m   c   k,CR g->cX s d L f i g a seen=.ok (m,c,k)->CR c
 |0,i,g,a,seen,m,c,k,h,e=>by cases e
 |f+1,i,g,a,seen,m,c,k,h,e=>by
  cases l:fD s d L i g a seen with
  |error b=>simp_all[oM]
  |ok q=>
   obtain⟨j,o,r,t⟩:=q;have p:=EL h l;by_cases n:aR s j 59=true;·rw[mQ l n]at e;exact ru f _ _ _ _ _ _ _ p e
   ·rw[mP l n]at e;grind[mc]
theorem Cp{s}{b}{L}{i}{c}{f}{a}{d}(h:CR c)(e:lZ s b L i c=.ok (f,a,d)):CR a:=by grind[lZ,ru]
theorem vm{s}{c}(i:∀st a,CR st.er->c st=.ok a->CR a.er):∀  f   st a,CR st.er->fK s c f st=.ok a->CR a.er
 |0,st,a,h,e=>by cases e
 |f+1,st,a,h,e=>by
  rw[fK]at e;cases g:c st with
  |error b=>grind
  |ok d=>
   rw[g]at e;simp only at e;have j:=i st d h g;split at e;·exact vm i f _ a (by exact j) e
   grind
theorem ES{s}{c k}{b}(d:∀st a,CR st.er->b st=.ok a->CR a.er){st a}(h:CR st.er)(e:iP s c k b st=.ok a):CR a.er:=by
 unfold iP at e;split at e
 ·split at e;·cases e
  ·split at e;·grind
   ·exact vm d _ _ _ (by exact h) e
 grind
theorem vF{s}:∀  f   up   c   st d,CR st.er->fZ s f up c st=.ok d->CR d.er
 |0,up,c,st,d,h,e=>by cases e
 |f+1,up,c,st,d,h,e=>by
  rw[fZ]at e;split at e;·cases e
  ·split at e;·cases e
   ·rename_i g;exact ES (λa b=>vF f _ _ a b) (Cp ((h.addI _ dg _).addI _ dg _) g) e
theorem pQ{s}{c p}(h:bj s=.error (some (c,p))):2<=c/\c<=7:=by
 have b:=BG s;rw[h]at b;have a:lF s=.error (c,p):=b.symm;unfold lF at a;split at a;·grind[bj]
 ·split at a;·grind
  ·rename_i st d;have e:=vF _ _ _ _ _ (CR.none) d;split at a;·grind
   ·split at a;·rename_i f g;injection a with a;exact e c p rn
    grind
