import Derived.Test.YtaanagpadfcmlaaGreatDoorQ26
import Derived.RegionDies
set_option linter.all false
set_option maxRecDepth 100000
set_option maxHeartbeats 16000000
namespace Go.Proofs.YtaanagpadfcmlaaGreatDoor
open Go.RowKit Go.Proofs.Tryz
theorem IL{i}(h:i<0):lH i=.tuple #[Iq 0,.bool false]:=by grind[lH]
theorem Ft{i}(h:¬i<0):lH i=.tuple #[Iq i,.bool true]:=by grind[lH]
theorem tU s i:dE s i<7:=by
 unfold dE;rcases iT (mE s i) bU 0 with h|h;·omega
 ·have:bU.length=7:=rfl;omega
theorem mem_add{d w w'}{c ab B}{E}{s}{st}{L}{i}{a}(h:Mem d w c ab B E s st)(j:lU w w' c B s i (Sq ab 12 12) (fd E a) L)(l:fm s ⟨i,L,a⟩):Mem d w' c ab B E s ⟨i,L,a⟩:=by obtain⟨e,k,_,f,_⟩:=h;obtain⟨m,g,p,n,b,_⟩:=j;exact⟨e.fr b,k.fr b e.rbB e.lo,l,f.trans b,m,g,p,n⟩
theorem s'(m ab B:Nat)(E:Nat->Addr)(s:ByteArray)(f:Nat)(zt:CY m ab B E s f)(hs:s.size<=100000):CY m ab B E s (f+1):=by
 intro up a st U w hM hup hd hf;have zz:=qH<|zt;have HM:=qH<|hM;obtain⟨H,kn,u,fr,nv,KV,pr,pn⟩:=hM;have D:=H.rbB;have zm:=H.lo;have zD:=u.il;have Pj:=u.ll;have HG:=qH<|u;obtain⟨zG,zA,rfl⟩:∃p c,nv=.slice p st.L.length c:=db pn.nr.row.choose_spec;have CW:=ni m s st.i (Sq ab 12 12) (.slice zG st.L.length zA) (fd E st.er) w pr dg zD;obtain⟨at_,zc⟩:=ad (sk s st.i);have zI:at_<=s.size:=by rw[<-zc];exact dX s st.i zD
 have Su:st.i<=at_:=by rw[<-zc];exact du s st.i
 obtain⟨k,hk⟩:=ad (run ao s at_);have zT:k<=s.size:=by rw[<-hk];exact h_ _ _ _ zI
 obtain⟨t,ht⟩:=ad (s.extract at_ k);have HK:Hid (dE s st.i=aI bU t 0):=by show _=_;unfold dE mE;rw[zc,hk,ht]
 have HW:=qH<|λh=>by have:=oT h zD;rw[zc,hk]at this;exact this
 rw[zc,hk,ht]at CW;have zK:=qH<|CW;have HPN:=qH<|pn;have CK:Hid (∀W,Kn W->Cw 117 #[.string t] W λe w'=>e=Rw (lH (aI bU t 0))/\w'=W):=λW hW=>Fs t W _ _ _ _ _ _ _ (hW 0 dg) (hW 1 dg) (hW 2 dg) (hW 3 dg) (hW 4 dg) (hW 5 dg) (hW 6 dg);rw[<-HK.out]at CK;have SO:=tU s st.i;have HP:Hid (aK s (f+1) up a st=if dE s st.i<0 then .error at_ else nc (Mf s (dE s st.i).toNat st.L.length k (iY st.er (jC st.L.length a) at_) (grown st.L ⟨(dE s st.i).toNat,aQ,[],[],up⟩)) λd=>na s (dE s st.i).toNat st.L.length (aK s f (st.L.length:Int) (a+1)) d):=by show _=_;unfold aK;rw[zc,hk]
 obtain⟨ki,zF⟩:=ad (dE s st.i);rw[zF]at CK HP HW SO;have HT:Hid (∀W,W.cell? (aj 7 0)=some (bi (E 2))->Cw 57 #[Iq (at_:Int)] W λe w'=>e=Rw (.iface 131 (.agg #[Iq (at_:Int),.iface 376 (.pointer (some (E 2)))]))/\w'=W):=λW he=>fh _ W (E 2) he;clear CW zc hk ht HK zF pr pn H kn u fr zt;by_cases P:ki<0
 ·have WJ:Hid (aK s (f+1) up a st=.error at_):=by show _=_;rw[HP.out,if_pos P]
  rw[IL P]at CK;clear HP HW;go_enter func55,ntmps55;go_wp2_with fail;refine zK.mono ?_;rintro e w1 ⟨rfl,h1,g1⟩;have V:=qH<|Fr.grown g1 HM.1.le;have zh:=qH<|HM.1.fr V;have zw:=qH<|HM.2.1.fr V D zm;clear h1 g1;go_wp2_with fail;refine(CK _ zw).mono ?_;rintro e w2 ⟨rfl,hw⟩;obtain rfl:=hw.symm;go_wp2_with fail;refine(HT _ zh.g2).mono ?_;rintro e w3 ⟨rfl,hw⟩;obtain rfl:=hw.symm;go_wp2;refine⟨rfl,?_⟩;rw[WJ.out];exact⟨rfl,HM.2.2.2.1.trans V⟩
 ·obtain⟨l,rfl⟩:∃q:Nat,ki=(q:Int):=⟨ki.toNat,dg⟩;have Q5:l<7:=dg
  have XH:=HW P;have Y:Hid (aK s (f+1) up a st=nc (Mf s l st.L.length k (iY st.er (jC st.L.length a) at_) (grown st.L ⟨l,aQ,[],[],up⟩)) λd=>na s l st.L.length (aK s f (st.L.length:Int) (a+1)) d):=by show _=_;rw[HP.out,if_neg P];simp only[jG]
  rw[Ft P]at CK;have hL:st.L.length<=100000:=dg;obtain⟨Z,zl⟩:=ad (grown st.L ⟨l,aQ,[],[],up⟩);have zH:Z.length=st.L.length+1:=by rw[<-zl];exact dk _ _
  obtain⟨I,zq⟩:=ad (iY st.er (jC st.L.length a) at_);have zJ:up<st.L.length:=dg;have zj:Hid (fm s ⟨k,Z,I⟩):=⟨zT,rd,λj=>by show(aa Z j).kids.length<=Z.length;rw[zH,<-zl];exact qO _ _ rfl zJ HG.kl j⟩;have Xy:Z.length<=k:=dg
  have zx:Hid ((aa Z st.L.length).kind=l):=by
   show _=_;rw[<-zl];by_cases hu:up<0;·grind[grown,cJ]
   ·rw[iV st.L _ up.toNat rd dg,aN _ dg,cJ]
  rw[zl,zq]at Y;clear HP HW P;go_enter func55,ntmps55;go_wp2_with fail;refine zK.mono ?_;rintro e w1 ⟨rfl,h1,g1⟩;have V:=qH<|Fr.grown g1 HM.1.le;have zh:=qH<|HM.1.fr V;have zw:=qH<|HM.2.1.fr V D zm;have zQ:=qH<|h1;have zP:=qH<|HPN.up (Up.grown g1 D);clear h1 g1;go_wp2_with fail;refine(CK _ zw).mono ?_;rintro e w2 ⟨rfl,hw⟩;obtain rfl:=hw.symm;have CR:Hid (Cw 119 #[Pq m,Iq (a:Int)] w1 λe w'=>e=Rw (Pb E (jC st.L.length a))/\w'=w1):=by have:=yA m s k (Sq ab 12 12) (fd E st.er) zG st.L.length zA a (E 3) (E 4) w1 zQ zh.g3 zh.g4;rw[Mt]at this;exact this
  go_wp2_with fail;refine CR.mono ?_;rintro e w3 ⟨rfl,hw⟩;obtain rfl:=hw.symm;have CP:Hid (Cw 118 #[Pq m,Pb E (jC st.L.length a),Iq (at_:Int)] w1 λe w'=>e=Rw (.tuple #[])/\PR w' m s k (Sq ab 12 12) (.slice zG st.L.length zA) (fd E I)/\w1.grownBy w' (some m)):=by have:=keep_all m s k (Sq ab 12 12) (.slice zG st.L.length zA) E st.er (jC st.L.length a) at_ w1 zQ;rw[zq]at this;exact this
  clear zq;go_wp2_with fail;refine CP.mono ?_;rintro e w4 ⟨rfl,h4,g4⟩;have zv:=qH<|V.trans (Fr.grown g4 zh.le);have zi:=qH<|HM.1.fr zv;have zZ:Hid (Mem U w4 m ab B E s ⟨k,st.L,I⟩):=⟨zi,HM.2.1.fr zv D zm,⟨zT,rd,HG.kl⟩,HM.2.2.2.1.trans zv,_,KV,h4,zP.up (Up.grown g4 D)⟩;have CA:Hid (Cw 120 #[Pq m,Iq (l:Int),Iq up] w4 λe w'=>e=Rw (Iq (st.L.length:Int))/\lU w4 w' m B s k (Sq ab 12 12) (fd E I) Z):=by have:=wD m ab B s k _ (fd E I) st.L KV l up w4 h4 (zP.up (Up.grown g4 D)) zi.tab D zi.abB zi.ne zi.le hL hup (λj ks hj UP=>by rw[<-UP];have:=HG.kl j;omega);rw[zl]at this;exact this
  clear h4 g4 CP CR V zh zw zQ zP zl;go_wp2_with fail;refine CA.mono ?_;rintro e w5 ⟨rfl,h5⟩;have zy:=qH<|mem_add zZ h5 zj;obtain⟨g,zr⟩:=ad st.L.length;rw[zr]at Y zH zx hL;rw[zr];have zF:k=(⟨k,Z,I⟩:PS).i:=rfl;have CT:Hid (Cw 121 #[Pq m,.int .u8 123] w5 λe w'=>e=Rw (.bool (aL s k 123))/\Mem U w' m ab B E s ⟨am s k 123,Z,I⟩):=oh (st:=⟨k,Z,I⟩) 123 zy dg dg;have UG:=bG s k 123;have zC:=dK (s:=s) (i:=k) (c:=123) dg zT;have Nu:a+1<=k:=dg
  have UD:s.size<f+k:=dg;clear h5 zZ CA zi zv zr zj HM HG HPN zK CK HT hup zJ hd hf zD Pj zI Su zF;by_cases hq:aL s k 123=true
  ·obtain⟨Sg,Zk,zR,Xr,nv5,Xb,Zo,Vz⟩:=zy.out;rw[hq]at CT;go_wp2_with fail;refine CT.mono ?_;rintro e w6 ⟨rfl,h6⟩;clear Sg Zk zR Xr Zo Vz;have X:=qH<|h6;obtain⟨H,kn,u,fr,nv,zk,pr,pn⟩:=h6;obtain⟨bl,S,rfl,zB,zg,_,_⟩:=pn.nr.form rd;have CA:=qH<|readAttributes_any m ab B E s (am s k 123) I Z zk bl S g l w6 H pr pn dg dg zx Q5 dg zC;have c3:=pr.c3;have zE:(g:Int)<(Z.length:Int):=dg
   clear H kn u fr pr pn CT zy;cases hp:dL s l g (s.size+1) (am s k 123) I Z []with
   |error b=>
    have o:Hid (aK s (f+1) up a st=.error b):=by show _=_;rw[Y.out];unfold Mf;rw[if_pos hq,hp];rfl
    rw[hp]at CA;clear hp Y hq;go_wp2_with fail;refine CA.mono ?_;rintro e w7 ⟨f7,rfl⟩;refine⟨rfl,?_⟩;rw[o.out];exact⟨rfl,X.2.2.2.1.trans (f7.fr X.1.le zB)⟩
   |ok r=>
    obtain⟨i2,Gq,L2⟩:=r;have n:Hid (aK s (f+1) up a st=na s l g (aK s f (g:Int) (a+1)) ⟨i2,L2,Gq⟩):=by show _=_;rw[Y.out];unfold Mf;rw[if_pos hq,hp];rfl
    obtain⟨b1,b2,b3,b4⟩:=qt _ _ _ _ _ _ _ _ zC hp;rw[hp]at CA;clear hp Y hq;go_wp2_with fail;refine CA.mono ?_;rintro e w7 ⟨f7,rfl,N,n7,l7⟩;have O:=f7.fr X.1.le zB;obtain⟨d,y⟩:∃z:PS,⟨i2,L2,Gq⟩=z:=⟨_,rfl⟩;have zU:a+1<=d.i:=by rw[<-y];show a+1<=i2;omega
    have zV:s.size<f+d.i:=by rw[<-y];show s.size<f+i2;omega
    have T:g<d.L.length:=by rw[<-y];show g<L2.length;omega
    have x:Hid (Mem U w7 m ab B E s d):=by
     rw[<-y];refine⟨X.1.fr O,X.2.1.fr O D zm,⟨b2,?_,λj=>?_⟩,X.2.2.2.1.trans O,_,zk,N,n7⟩;·grind
     ·show(aa L2 j).kids.length<=L2.length;rw[b4,b3];exact X.2.2.1.kl j
    rw[y]at n;clear N n7 f7 O CA y c3 UG zC Nu UD zx X;have zS:l=0\/l=1\/l=2\/l=3\/l=4\/l=5\/l=6:=dg;have zo:((a+1:Nat):Int)=(a:Int)+1:=dg;have UC:(a:Int)+1<=1000000:=by have:=x.2.2.1.il;omega
    have CL:Hid (Cw 125 #[Pq m,Iq (g:Int),Iq ((a:Int)+1)] w7 λe w'=>dN U w' e m ab B E s (gp s (aK s f (g:Int) (a+1)) d)):=by have:=oZ m ab B E s f zz dg g (a+1) d U w7 x T zU zV;rw[zo]at this;exact this
    rcases zS with rfl|rfl|rfl|rfl|rfl|rfl|rfl;iterate 3
     ·have v:Hid (aK s (f+1) up a st=gp s (aK s f (g:Int) (a+1)) d):=by show _=_;rw[n.out];rfl
      obtain⟨R,hR⟩:=ad (gp s (aK s f (g:Int) (a+1)) d);rw[hR]at CL v;clear hR n;go_wp2_with fail;refine CL.mono ?_;cases R with
      |error b=>rintro e J ⟨rfl,f7⟩;refine⟨rfl,?_⟩;rw[v.out];exact⟨rfl,f7⟩
      |ok C=>rintro e J ⟨rfl,N⟩;have zM:=qH<|N;clear N CL;go_wp2;go_end0;show dN _ _ _ _ _ _ _ _ _;rw[v.out];exact⟨rfl,zM⟩
    iterate 2
     ·by_cases hb:aL s d.i 91=true
      ·have K:Hid (Cw 124 #[Pq m,.int .u8 91] w7 λe w'=>dN U w' e m ab B E s (dG s d 91)):=ew 91 x dg dg;have e1:dG s d 91=.ok {d with i:=am s d.i 91}:=by unfold dG;rw[if_pos hb]
       rw[e1]at K;obtain⟨C,F⟩:∃z:PS,{d with i:=am s d.i 91}=z:=⟨_,rfl⟩;have z1:d.i<=C.i:=by rw[<-F];exact bG _ _ _
       have z2:C.L.length=d.L.length:=by rw[<-F]
       rw[F]at K;have v:Hid (∀r,aK s f (g:Int) (a+1) C=r->aK s (f+1) up a st=nc r λM=>dG s M 93):=λr hr=>by rw[n.out];show ot s (aK s f (g:Int) (a+1)) d=_;grind[ot]
       clear e1 F hb CL n;go_wp2_with fail;refine K.mono ?_;rintro e J ⟨rfl,N⟩;have CN:Hid (Cw 55 #[Pq m,Iq (g:Int),Iq ((a:Int)+1)] J λe w'=>dN U w' e m ab B E s (aK s f (g:Int) (a+1) C)):=by have:=zz (g:Int) (a+1) C U J N (.inr ⟨dg,dg⟩) dg dg;rw[zo]at this;exact this
       clear N K;cases hp:aK s f (g:Int) (a+1) C with
       |error b=>have o:Hid (aK s (f+1) up a st=.error b):=v _ hp;rw[hp]at CN;clear hp v;go_wp2_with fail;refine CN.mono ?_;rintro e x8 ⟨rfl,f8⟩;refine⟨rfl,?_⟩;rw[o.out];exact⟨rfl,f8⟩
       |ok M=>
        have o:Hid (aK s (f+1) up a st=dG s M 93):=v _ hp;rw[hp]at CN;clear hp v;go_wp2_with fail;refine CN.mono ?_;rintro e x8 ⟨rfl,h8⟩;have K:Hid (Cw 124 #[Pq m,.int .u8 93] x8 λe w'=>dN U w' e m ab B E s (dG s M 93)):=ew 93 h8 dg dg;obtain⟨R,hR⟩:=ad (dG s M 93);rw[hR]at K o;clear h8 CN hR;go_wp2_with fail;refine K.mono ?_;cases R with
        |error b=>rintro e x9 ⟨rfl,f9⟩;refine⟨rfl,?_⟩;rw[o.out];exact⟨rfl,f9⟩
        |ok Zr=>rintro e x9 ⟨rfl,h9⟩;have zN:=qH<|h9;clear h9 K;go_wp2;go_end0;show dN _ _ _ _ _ _ _ _ _;rw[o.out];exact⟨rfl,zN⟩
      ·have K:Hid (Cw 124 #[Pq m,.int .u8 91] w7 λe w'=>dN U w' e m ab B E s (dG s d 91)):=ew 91 x dg dg;have e1:dG s d 91=.error (sk s d.i):=by unfold dG;rw[if_neg hb]
       rw[e1]at K;have o:Hid (aK s (f+1) up a st=.error (sk s d.i)):=by show _=_;rw[n.out];show ot s (aK s f (g:Int) (a+1)) d=_;unfold ot;rw[if_neg hb]
       clear e1 hb CL n;go_wp2_with fail;refine K.mono ?_;rintro e J ⟨rfl,f7⟩;refine⟨rfl,?_⟩;rw[o.out];exact⟨rfl,f7⟩
    ·obtain⟨H,kn,u,fr,nv,zk,pr,pn⟩:=x.out;obtain⟨bl,S,rfl,zB,zg,_,_⟩:=pn.nr.form dg;have G:=qH<|H;have Q:=qH<|pr;have HPN:=qH<|pn;have CS:Hid (∀W,PR W m s d.i (Sq ab 12 12) (Sq bl d.L.length S) (fd E d.er)->W.cell? (aj 7 0)=some (bi (E 2))->Cw 123 #[Pq m] W λe w'=>K1 W w' e m s (Sq ab 12 12) (Sq bl d.L.length S) (fd E d.er) (E 2) (dU s d.i)):=λW h1 h2=>kC m s d.i _ _ _ (E 2) W h1 dg u.il dg h2;have zj:=qH<|u;clear H kn u fr pr pn CL;cases A:dU s d.i with
     |error b=>
      have o:Hid (aK s (f+1) up a st=.error b):=by show _=_;rw[n.out];show gY s g d=_;unfold gY;rw[A]
      rw[A]at CS;clear A n;have c3:=Q.c3;have zE:(g:Int)<(d.L.length:Int):=dg;go_wp2_with fail;go_region_dies;all_goals refine(CS _ (Q.drewN 1) G.g2).mono ?_;rintro e J ⟨g7,rfl⟩;refine⟨rfl,?_⟩;rw[o.out];exact⟨rfl,x.2.2.2.1.trans ((Fr.drewN B m w7 1).trans (Fr.grown g7 G.le))⟩
     |ok r=>
      obtain⟨i2,tt⟩:=r;have o:Hid (aK s (f+1) up a st=.ok {d with i:=i2,L:=aA d.L g tt}):=by show _=_;rw[n.out];show gY s g d=_;unfold gY;rw[A]
      have zL:=qH<|(r_ (s:=s) (idx:=g) zj (by unfold gY;rw[A])).good;rw[A]at CS;clear A n;have c3:=Q.c3;have zE:(g:Int)<(d.L.length:Int):=dg
      have ce:=HPN.nr.cells bl rfl g T 13 _ (DK (HPN.len g T));obtain⟨ov,zu⟩:∃z:ByteArray,⟨(aa d.L g).text.toArray⟩=z:=⟨_,rfl⟩;rw[zu]at ce;have cf:w7.frozen? (aj bl (g*16+13))=false:=HPN.nr.frz rfl _;have XP:bl≠m:=dg;clear zu;go_wp2_with fail;go_region_with(first|(go_at_call 123;refine(CS _ (Q.drewN 1) G.g2).mono ?_;rintro e J ⟨g7,rfl,N⟩;have zn:=qH<|N;have za:=qH<|g7;have k3:=N.c3;have ze:J.heap[bl]?=w7.heap[bl]?:=g7.block bl zg rd;have kc:=(bf ze).trans ce;have kf:=(nH ze).trans cf;clear N g7));all_goals
       have zO:Hid (Mem U (J.setCell (aj bl (g*16+13)) (.string ⟨tt.toArray⟩)) m ab B E s {d with i:=i2,L:=aA d.L g tt}):=by
        have O:=(Fr.drewN B m w7 1).trans (Fr.grown za G.le);have zb:Fr B m w7 (J.setCell (aj bl (g*16+13)) (.string ⟨tt.toArray⟩)):=O.trans (Fr.own (bF J bl _ _) (aF G.le O.size) (λq e=>rd));have zX:=(HPN.up (Up.drewN B w7 1)).up (Up.grown za D);have zY:=zX.setText T tt;have Y3:(aA d.L g tt).length=d.L.length:=by unfold aA;simp
        refine⟨G.fr zb,x.2.1.fr zb D zm,zL,x.2.2.2.1.trans zb,Sq bl d.L.length S,zk,PR.far zn (bF J bl _ _) (λq e=>rd) D,?_⟩;exact zY
       clear k3 ze kc kf za zn ce cf c3;go_wp2;go_end0;show dN _ _ _ _ _ _ _ _ _;rw[o.out];exact⟨rfl,zO⟩
    ·have v:Hid (aK s (f+1) up a st=.ok d):=by show _=_;rw[n.out];rfl
     clear CL n;go_wp2;go_end0;show dN _ _ _ _ _ _ _ _ _;rw[v.out];exact⟨rfl,x⟩
  ·have n:Hid (aK s (f+1) up a st=na s l g (aK s f (g:Int) (a+1)) ⟨am s k 123,Z,I⟩):=by show _=_;rw[Y.out];unfold Mf;rw[if_neg hq];rfl
   rw[show aL s k 123=false by grind]at CT;clear hq Y;go_wp2_with fail;refine CT.mono ?_;rintro e w6 ⟨rfl,h6⟩;obtain⟨d,y⟩:∃z:PS,⟨am s k 123,Z,I⟩=z:=⟨_,rfl⟩;have zU:a+1<=d.i:=by rw[<-y];show a+1<=am s k 123;omega
   have zV:s.size<f+d.i:=by rw[<-y];show s.size<f+am s k 123;omega
   have T:g<d.L.length:=by rw[<-y];show g<Z.length;omega
   rw[y]at h6 n;have x:=qH<|h6;clear h6 CT y zy UG zC Nu UD zx;have zS:l=0\/l=1\/l=2\/l=3\/l=4\/l=5\/l=6:=dg
   have zo:((a+1:Nat):Int)=(a:Int)+1:=dg;have UC:(a:Int)+1<=1000000:=by have:=x.2.2.1.il;omega
   have CL:Hid (Cw 125 #[Pq m,Iq (g:Int),Iq ((a:Int)+1)] w6 λe w'=>dN U w' e m ab B E s (gp s (aK s f (g:Int) (a+1)) d)):=by have:=oZ m ab B E s f zz dg g (a+1) d U w6 x T zU zV;rw[zo]at this;exact this
   rcases zS with rfl|rfl|rfl|rfl|rfl|rfl|rfl;iterate 3
    ·have v:Hid (aK s (f+1) up a st=gp s (aK s f (g:Int) (a+1)) d):=by show _=_;rw[n.out];rfl
     obtain⟨R,hR⟩:=ad (gp s (aK s f (g:Int) (a+1)) d);rw[hR]at CL v;clear hR n;go_wp2_with fail;refine CL.mono ?_;cases R with
     |error b=>rintro e J ⟨rfl,f7⟩;refine⟨rfl,?_⟩;rw[v.out];exact⟨rfl,f7⟩
     |ok C=>rintro e J ⟨rfl,N⟩;have zM:=qH<|N;clear N CL;go_wp2;go_end0;show dN _ _ _ _ _ _ _ _ _;rw[v.out];exact⟨rfl,zM⟩
   iterate 2
    ·by_cases hb:aL s d.i 91=true
     ·have K:Hid (Cw 124 #[Pq m,.int .u8 91] w6 λe w'=>dN U w' e m ab B E s (dG s d 91)):=ew 91 x dg dg;have e1:dG s d 91=.ok {d with i:=am s d.i 91}:=by unfold dG;rw[if_pos hb]
      rw[e1]at K;obtain⟨C,F⟩:∃z:PS,{d with i:=am s d.i 91}=z:=⟨_,rfl⟩;have z1:d.i<=C.i:=by rw[<-F];exact bG _ _ _
      have z2:C.L.length=d.L.length:=by rw[<-F]
      rw[F]at K;have v:Hid (∀r,aK s f (g:Int) (a+1) C=r->aK s (f+1) up a st=nc r λM=>dG s M 93):=λr hr=>by rw[n.out];show ot s (aK s f (g:Int) (a+1)) d=_;grind[ot]
      clear e1 F hb CL n;go_wp2_with fail;refine K.mono ?_;rintro e J ⟨rfl,N⟩;have CN:Hid (Cw 55 #[Pq m,Iq (g:Int),Iq ((a:Int)+1)] J λe w'=>dN U w' e m ab B E s (aK s f (g:Int) (a+1) C)):=by have:=zz (g:Int) (a+1) C U J N (.inr ⟨dg,dg⟩) dg dg;rw[zo]at this;exact this
      clear N K;cases hp:aK s f (g:Int) (a+1) C with
      |error b=>have o:Hid (aK s (f+1) up a st=.error b):=v _ hp;rw[hp]at CN;clear hp v;go_wp2_with fail;refine CN.mono ?_;rintro e x8 ⟨rfl,f8⟩;refine⟨rfl,?_⟩;rw[o.out];exact⟨rfl,f8⟩
      |ok M=>
       have o:Hid (aK s (f+1) up a st=dG s M 93):=v _ hp;rw[hp]at CN;clear hp v;go_wp2_with fail;refine CN.mono ?_;rintro e x8 ⟨rfl,h8⟩;have K:Hid (Cw 124 #[Pq m,.int .u8 93] x8 λe w'=>dN U w' e m ab B E s (dG s M 93)):=ew 93 h8 dg dg;obtain⟨R,hR⟩:=ad (dG s M 93);rw[hR]at K o;clear h8 CN hR;go_wp2_with fail;refine K.mono ?_;cases R with
       |error b=>rintro e x9 ⟨rfl,f9⟩;refine⟨rfl,?_⟩;rw[o.out];exact⟨rfl,f9⟩
       |ok Zr=>rintro e x9 ⟨rfl,h9⟩;have zN:=qH<|h9;clear h9 K;go_wp2;go_end0;show dN _ _ _ _ _ _ _ _ _;rw[o.out];exact⟨rfl,zN⟩
     ·have K:Hid (Cw 124 #[Pq m,.int .u8 91] w6 λe w'=>dN U w' e m ab B E s (dG s d 91)):=ew 91 x dg dg;have e1:dG s d 91=.error (sk s d.i):=by unfold dG;rw[if_neg hb]
      rw[e1]at K;have o:Hid (aK s (f+1) up a st=.error (sk s d.i)):=by show _=_;rw[n.out];show ot s (aK s f (g:Int) (a+1)) d=_;unfold ot;rw[if_neg hb]
      clear e1 hb CL n;go_wp2_with fail;refine K.mono ?_;rintro e J ⟨rfl,f7⟩;refine⟨rfl,?_⟩;rw[o.out];exact⟨rfl,f7⟩
   ·obtain⟨H,kn,u,fr,nv,zk,pr,pn⟩:=x.out;obtain⟨bl,S,rfl,zB,zg,_,_⟩:=pn.nr.form dg;have G:=qH<|H;have Q:=qH<|pr;have HPN:=qH<|pn;have CS:Hid (∀W,PR W m s d.i (Sq ab 12 12) (Sq bl d.L.length S) (fd E d.er)->W.cell? (aj 7 0)=some (bi (E 2))->Cw 123 #[Pq m] W λe w'=>K1 W w' e m s (Sq ab 12 12) (Sq bl d.L.length S) (fd E d.er) (E 2) (dU s d.i)):=λW h1 h2=>kC m s d.i _ _ _ (E 2) W h1 dg u.il dg h2;have zj:=qH<|u;clear H kn u fr pr pn CL;cases A:dU s d.i with
    |error b=>
     have o:Hid (aK s (f+1) up a st=.error b):=by show _=_;rw[n.out];show gY s g d=_;unfold gY;rw[A]
     rw[A]at CS;clear A n;have c3:=Q.c3;have zE:(g:Int)<(d.L.length:Int):=dg;go_wp2_with fail;go_region_dies;all_goals refine(CS _ (Q.drewN 1) G.g2).mono ?_;rintro e J ⟨g7,rfl⟩;refine⟨rfl,?_⟩;rw[o.out];exact⟨rfl,x.2.2.2.1.trans ((Fr.drewN B m w6 1).trans (Fr.grown g7 G.le))⟩
    |ok r=>
     obtain⟨i2,tt⟩:=r;have o:Hid (aK s (f+1) up a st=.ok {d with i:=i2,L:=aA d.L g tt}):=by show _=_;rw[n.out];show gY s g d=_;unfold gY;rw[A]
     have zL:=qH<|(r_ (s:=s) (idx:=g) zj (by unfold gY;rw[A])).good;rw[A]at CS;clear A n;have c3:=Q.c3;have zE:(g:Int)<(d.L.length:Int):=dg
     have ce:=HPN.nr.cells bl rfl g T 13 _ (DK (HPN.len g T));obtain⟨ov,zu⟩:∃z:ByteArray,⟨(aa d.L g).text.toArray⟩=z:=⟨_,rfl⟩;rw[zu]at ce;have cf:w6.frozen? (aj bl (g*16+13))=false:=HPN.nr.frz rfl _;have XP:bl≠m:=dg;clear zu;go_wp2_with fail;go_region_with(first|(go_at_call 123;refine(CS _ (Q.drewN 1) G.g2).mono ?_;rintro e J ⟨g7,rfl,N⟩;have zn:=qH<|N;have za:=qH<|g7;have k3:=N.c3;have ze:J.heap[bl]?=w6.heap[bl]?:=g7.block bl zg rd;have kc:=(bf ze).trans ce;have kf:=(nH ze).trans cf;clear N g7));all_goals
      have zO:Hid (Mem U (J.setCell (aj bl (g*16+13)) (.string ⟨tt.toArray⟩)) m ab B E s {d with i:=i2,L:=aA d.L g tt}):=by
       have O:=(Fr.drewN B m w6 1).trans (Fr.grown za G.le);have zb:Fr B m w6 (J.setCell (aj bl (g*16+13)) (.string ⟨tt.toArray⟩)):=O.trans (Fr.own (bF J bl _ _) (aF G.le O.size) (λq e=>rd));have zX:=(HPN.up (Up.drewN B w6 1)).up (Up.grown za D);have zY:=zX.setText T tt;have Y3:(aA d.L g tt).length=d.L.length:=by unfold aA;simp
       refine⟨G.fr zb,x.2.1.fr zb D zm,zL,x.2.2.2.1.trans zb,Sq bl d.L.length S,zk,PR.far zn (bF J bl _ _) (λq e=>rd) D,?_⟩;exact zY
      clear k3 ze kc kf za zn ce cf c3;go_wp2;go_end0;show dN _ _ _ _ _ _ _ _ _;rw[o.out];exact⟨rfl,zO⟩
   ·have v:Hid (aK s (f+1) up a st=.ok d):=by show _=_;rw[n.out];rfl
    clear CL n;go_wp2;go_end0;show dN _ _ _ _ _ _ _ _ _;rw[v.out];exact⟨rfl,x⟩
theorem nh b ab B E s(c:s.size<=100000):∀f,CY b ab B E s f
 |0=>λup a st g w h d hd e=>absurd h.2.2.1.il dg
 |f+1=>s' b ab B E s f (nh b ab B E s c f) c
def yh(s:ByteArray)(st:PS):Except (Option (Nat×Nat)) (List Nd):=if sk s st.i<s.size then .error (some (2,sk s st.i))else match st.er with
 |some f=>.error (some f)
 |none=>.ok st.L
def NN(s:ByteArray):Except Nat PS->Except (Option (Nat×Nat)) (List Nd)
 |.error b=>.error (some (2,b))
 |.ok st=>yh s st
def bJ(s:ByteArray):Except (Option (Nat×Nat)) (List Nd):=if 4000<s.size then .error none else NN s (aK s (s.size+1) (-1) 0 ⟨0,[],none⟩)
def pv(E:Nat->Addr):Option (Nat×Nat)->Value
 |none=>bi (E 1)
 |some (c,p)=>cP (p:Int) (bi (E c))
def Nh(w w':World)(e:Ending)(E:Nat->Addr)(r:Except (Option (Nat×Nat)) (List Nd)):Prop:=Bt w w'/\match r with
 |.error x=>e=.panicked [{v:=pv E x,recovered:=false}]
 |.ok L=>∃nv KV,e=Rw nv/\PN w' w.heap.size nv L KV
structure vY(W:World)(E:Nat->Addr):Prop where
 sz:9<=W.heap.size
 kn:Kn W
 g1:W.cell? (aj 0 0)=some (bi (E 1))
 g2:W.cell? (aj 7 0)=some (bi (E 2))
 g3:W.cell? (aj 1 0)=some (bi (E 3))
 g4:W.cell? (aj 2 0)=some (bi (E 4))
 g5:W.cell? (aj 3 0)=some (bi (E 5))
 g6:W.cell? (aj 4 0)=some (bi (E 6))
 g7:W.cell? (aj 5 0)=some (bi (E 7))
theorem OQ(W:World)s a E:PR (W.alloc (.cells #[.string s,Iq 0,a,.slice none 0 0,.nilIface] 137)) W.heap.size s 0 a (.slice none 0 0) (fd E none):=
 ⟨rn,by simp_all,by simp_all,by simp_all,by simp_all,by rw[World.cell?_alloc_at _ _ _ _ rfl];rfl,λj=>frozen_of_row _ _ _ _ _ (heap_alloc_new _ _)⟩
theorem PN.base{W}{B d}{m}{L}{l}(h:PN W B m L l)(p:d<=B):PN W d m L l:=by
 obtain⟨s,r⟩:=h.nr.row;have own:∀{e:TypeId} {size n:Nat} {v:Value} {k:List Value},W.ownsRow B e size v n k->W.ownsRow d e size v n k:=fun{e size n v k} h=>⟨h.1,by
  rcases h.2 with o|⟨g,f,i,a,b,c⟩;·exact .inl o
  ·exact .inr ⟨g,f,i,a,aF p b,c⟩⟩;exact⟨⟨⟨s,own r⟩,h.nr.cells,h.nr.len,λj q=>own (h.nr.kids j q),h.nr.sep⟩,h.len⟩
theorem readTree_any(s:ByteArray)(E:Nat->Addr)(w:World)(hG:vY w E):
 Calls prog 25 #[.string s] w λe w'=>Nh w w' e E (bJ s):=by
 by_cases t:4000<s.size
 ·have N:Hid (bJ s=.error none):=by show _=_;unfold bJ;rw[if_pos t]
  have zj:(4000:Int)<(s.size:Int):=dg;have g1:w.cell? (aj 0 0)=some (.iface 376 (.pointer (some (E 1)))):=hG.g1;clear hG;go_enter func25,ntmps25;go_wp2;refine⟨rfl,?_⟩;rw[N.out];exact⟨af _ _,rfl⟩
 ·have zj:¬(4000:Int)<(s.size:Int):=dg
  have zn:(s.size:Int)<=4000:=dg;have d:=qH<|hG;have N:Hid (bJ s=NN s (aK s (s.size+1) (-1) 0 ⟨0,[],none⟩)):=by show _=_;unfold bJ;rw[if_neg t]
  obtain⟨A,G⟩:=ad w.heap.size;have CA:Hid (Calls prog 54 #[] w λe w'=>e=.returned (Sq A 12 12)/\w'=w.alloc (.cells iP 195)):=by have:=qp w;rw[G]at this;exact this
  have HT:Hid (GL (w.alloc (.cells iP 195)) A):=by have:=ML w;rw[G]at this;exact this
  have C:Hid (Below A w (w.alloc (.cells iP 195))):=by show Below _ _ _;rw[<-G];exact(af _ _).alloc (ae _) _
  obtain⟨w1,M⟩:=ad (w.alloc (.cells iP 195));have K:w1.heap.size=A+1:=by rw[<-M,au,G]
  rw[M]at CA HT C;have Q:=qH<|G;have zk:=hG.sz;rw[G]at zk;clear hG M G;go_enter func25,ntmps25;go_wp2_with fail;refine CA.mono ?_;rintro e zq ⟨rfl,hw⟩;obtain rfl:=hw.symm;go_wp2_with fail;obtain⟨h,m⟩:=ad (w1.alloc (.cells #[.string s,Iq 0,Sq A 12 12,.slice none 0 0,.nilIface] 137));have zo:h.heap.size=A+2:=by rw[<-m,au,K]
  have D:Hid (Below A w h):=by rw[<-m];exact C.alloc dg _
  have zg:Hid (PR h (A+1) s 0 (Sq A 12 12) (.slice none 0 0) (fd E none)):=by rw[<-m,<-K];exact OQ _ _ _ _
  have zh:Hid (GL h A):=by have:=HT.fr (Fr.below (B:=A+1) (r:=A+1) ((af w1.heap.size w1).alloc (ae _) (.cells #[.string s,Iq 0,Sq A 12 12,.slice none 0 0,.nilIface] 137)) dg) dg dg;rw[m]at this;exact this
  have H:∀(g:Nat) v,g<9->w.cell? (aj g 0)=some v->h.cell? (aj g 0)=some v:=λg v hg e=>(D.cell (p:=(aj g 0)) rd).trans e;have zb:Hid (M7 h (A+1) A (A+2) E):=⟨zh,dg,dg,dg,dg,dg,H _ _ (by decide) d.g2,H _ _ (by decide) d.g3,H _ _ (by decide) d.g4,H _ _ (by decide) d.g5,H _ _ (by decide) d.g6,H _ _ (by decide) d.g7⟩;have zc:Hid (Kn h):=λj hj=>(D.cell (p:=(aj 8 j)) rd).trans (d.kn j hj);have HM:Hid (Mem h h (A+1) A (A+2) E s ⟨0,[],none⟩):=⟨zb,zc,⟨aR _,ae _,λj=>aR _⟩,Fr.refl _ _ _,_,λ_=>.nilFunc,zg,⟨NR.nothing _ _ _ _ _ _ _,λj hj=>absurd hj rd⟩⟩;have P:Hid (Calls prog 55 #[Pq (A+1),Iq (-1),Iq 0] h λe w'=>dN h w' e (A+1) A (A+2) E s (aK s (s.size+1) (-1) 0 ⟨0,[],none⟩)):=nh (A+1) A (A+2) E s dg (s.size+1) (-1) 0 ⟨0,[],none⟩ h h HM (.inl rfl) (ae _) dg;have u:Hid (∀w',Fr (A+2) (A+1) h w'->Below w.heap.size w w'):=λw' f=>by rw[Q.out];exact D.trans ⟨f.os,f.tape,f.output,f.size,λk hk=>f.block k dg dg⟩
  have U:Hid (∀W,W.cell? (aj 7 0)=some (bi (E 2))->∀(q:Nat),Calls prog 57 #[Iq (q:Int)] W λe w'=>e=.returned (.iface 131 (.agg #[Iq (q:Int),.iface 376 (.pointer (some (E 2)))]))/\w'=W):=λW he q=>fh _ W (E 2) he;rw[m];clear m H HT C CA K;cases hp:aK s (s.size+1) (-1) 0 ⟨0,[],none⟩with
  |error b=>
   have y:Hid (bJ s=.error (some (2,b))):=by show _=_;rw[N.out,hp];rfl
   rw[hp]at P;clear hp N;refine P.mono ?_;rintro e w3 ⟨rfl,f3⟩;refine⟨rfl,?_⟩;rw[y.out];exact⟨u _ f3,rfl⟩
  |ok st=>
   have y:Hid (bJ s=yh s st):=by show _=_;rw[N.out,hp];rfl
   rw[hp]at P;clear hp N;refine P.mono ?_;rintro e w3 ⟨rfl,z,zl,o,T,nv,KV,X,V⟩;have CB:=qH<|skipBlanks_any (A+1) s st.i _ nv _ w3 X dg o.il;have x:=qH<|z;have R:=qH<|T;have S:=qH<|V;obtain⟨O,I⟩:=ad (sk s st.i);have a:Hid (bJ s=if O<s.size then .error (some (2,O))else match st.er with
    |some f=>.error (some f)
    |none=>.ok st.L):=by show _=_;rw[y.out];unfold yh;rw[I]
   rw[I]at CB;clear z zl o T X V P I y;go_wp2_with fail;refine CB.mono ?_;rintro e w4 ⟨rfl,Z,Y⟩;have F:=qH<|R.trans (Fr.grown Y x.le);have ze:=qH<|S.up (Up.grown Y dg);have za:=qH<|x.fr (Fr.grown Y x.le);have c1:=Z.c1;have c3:=Z.c3;have c4:=Z.c4;clear Z Y CB R S x;by_cases J:O<s.size
   ·have zm:(O:Int)<(s.size:Int):=dg
    have n:Hid (bJ s=.error (some (2,O))):=by show _=_;rw[a.out,if_pos J]
    clear a;go_wp2_with fail;refine(U _ za.g2 O).mono ?_;rintro e w5 ⟨rfl,hw⟩;obtain rfl:=hw.symm;go_wp2;refine⟨rfl,?_⟩;rw[n.out];exact⟨u _ F,rfl⟩
   ·cases l:st.er with
    |none=>
     have n:Hid (bJ s=.ok st.L):=by show _=_;rw[a.out,if_neg J,l]
     rw[l]at c4;have zi:w4.cell? (aj (A+1) 4)=some .nilIface:=c4;clear a c4 l;go_wp2;go_ret;show Nh _ _ _ _ _;rw[n.out];exact⟨u _ F,nv,KV,rfl,ze.base (by rw[Q.out];omega)⟩
    |some fp=>
     obtain⟨c,q⟩:=fp;have n:Hid (bJ s=.error (some (c,q))):=by show _=_;rw[a.out,if_neg J,l]
     rw[l]at c4;have zi:w4.cell? (aj (A+1) 4)=some (.iface 131 (.agg #[Iq (q:Int),.iface 376 (.pointer (some (E c)))])):=c4;clear a c4 l;go_wp2;refine⟨rfl,?_⟩;rw[n.out];exact⟨u _ F,rfl⟩
def yP(name:ByteArray)(kind:Nat):Option Nat:=if aI bS name 0<0\/fM kind (aI bS name 0).toNat=false then none else some (aI bS name 0).toNat
theorem rV j a(c:j<12)(d:a<7):dY (gK j) a 12 0=yP (gK j) a:=by
 have h1:j=0\/j=1\/j=2\/j=3\/j=4\/j=5\/j=6\/j=7\/j=8\/j=9\/j=10\/j=11:=dg;have b:a=0\/a=1\/a=2\/a=3\/a=4\/a=5\/a=6:=dg;rcases h1 with rfl|rfl|rfl|rfl|rfl|rfl|rfl|rfl|rfl|rfl|rfl|rfl<;>rcases b with rfl|rfl|rfl|rfl|rfl|rfl|rfl<;>decide
theorem nC{name}b(h:∀j,j<12->gK j≠name):dY name b 12 0=none/\aI bS name 0=-1:=by
 have i:∀f j,j+f<=12->dY name b f j=none:=λf=>by
  induction f with
  |zero=>intro j _;rfl
  |succ f m=>grind[dY]
 have d:∀(c:List ByteArray) k,(∀x∈c,x≠name)->aI c name k=-1:=λc=>by
  induction c with
  |nil=>intro k _;rfl
  |cons a r m=>grind[aI]
 refine⟨i 12 0 dg,d bS 0 (λx l=>?_)⟩;obtain⟨j,e,rfl⟩:=List.getElem_of_mem l;have g:j<12:=e;grind[gK]
theorem MI name a(b:a<7):dY name a 12 0=yP name a:=by grind[gK,rV,nC,yP]
theorem E7{name}(h:¬aI bS name 0<0):(aI bS name 0).toNat<12/\gK (aI bS name 0).toNat=name:=by
 by_cases b:∃j,j<12/\gK j=name
 ·obtain⟨j,a,rfl⟩:=b;have h1:j=0\/j=1\/j=2\/j=3\/j=4\/j=5\/j=6\/j=7\/j=8\/j=9\/j=10\/j=11:=dg
  rcases h1 with rfl|rfl|rfl|rfl|rfl|rfl|rfl|rfl|rfl|rfl|rfl|rfl<;>decide
 ·exact absurd (by rw[(nC (name:=name) 0 (λj a e=>b ⟨j,a,e⟩)).2];decide) h
theorem OI{i j}(hi:i<12)(b:j<12)(h:gK i=gK j):i=j:=by
 have h1:i=0\/i=1\/i=2\/i=3\/i=4\/i=5\/i=6\/i=7\/i=8\/i=9\/i=10\/i=11:=dg;have a:∀i,i<12->(aI bS (gK i) 0).toNat=i:=by decide
 grind
theorem xa b x y:∀k,(0<=aI (b++[y]) x k↔(0<=aI b x k\/y=x)):=by
 induction b with
 |nil=>grind[aI]
 |cons a r c=>grind[aI]
theorem Ep f c p c2 a:gI (gI f c p) c2 a=gI f c p:=by cases f<;>rfl
theorem jj b f c p c2 a:bn b (gI f c p) c2 a=gI f c p:=by grind[bn,Ep]
theorem wC{f:fA}(h:f≠none)c p:gI f c p=f:=by cases f with
 |none=>grind
 |some x=>rfl
theorem mK f c p:gI f c p≠none:=by cases f<;>simp[gI]
theorem CM L b a up e n:(grown L ⟨b,a,[],[],up⟩).modify L.length (λd=>{d with attr:=d.attr.set e n})=grown L ⟨b,a.set e n,[],[],up⟩:=by
 have g:∀(M:List Nd) (d:Nd) (f:Nd->Nd),M.length=L.length->(M++[d]).modify L.length f=M++[f d]:=λM d f h=>by apply Kf;grind
 grind[grown]
theorem xn L d:(grown L d).map (λx=>x.attr)=L.map (λx=>x.attr)++[d.attr]:=by
 unfold grown;split;·simp
 ·rw[kQ];congr 1;apply Kf;grind
theorem tM L k n:fF L k n=(L.map λx=>x.attr).any λa=>a[k]?.getD 0==n:=by grind[fF]
theorem xr L d n:fF (grown L d) 0 n=(em L n||(d.attr[0]?.getD 0==n)):=by rw[tM,xn,Kj,<-tM,Bf];simp
structure Gu(kind:Nat)(up:Int)(L:List Nd)(er:fA)(a:List Int)(seen:List Nat)(L':List Nd)(ws:List ByteArray):Prop where
 len:L'.length=L.length+1
 same:er=none->L'=grown L ⟨kind,a,[],[],up⟩
 q:∀ix,ix<12->fM kind ix=true->(seen.contains ix=true↔0<=aI ws (gK ix) 0)
 z:seen.contains 0=false->a[0]?.getD 0=0
def Xf(kind:Nat)(up:Int)(L:List Nd)(ws:List ByteArray)(r:Except Nat (Nat×fA×List Int×List Nat))(r':Except Nat (Nat×fA×List Nd×ByteArray)):Prop:=match r,r' with
 |.error b,.error b'=>b=b'
 |.ok (i,er,a,seen),.ok (i',Sh,L',t)=>i=i'/\er=Sh/\Gu kind up L er a seen L' (ws++[t])
 |_,_=>False
theorem NG a:me a=gX[a]?.getD 0:=rfl
theorem Et{s}{f}{up}{L}{m}{a}{seen}{p}{C}(hk:f<7)(h:Gu f up L m a seen p C)i:
 Xf f up L C (gP s f L i m a seen) (eD s f C p L.length i m):=by
 unfold gP eD;simp only[];by_cases A:run ao s (sk s i)=sk s i;·rw[if_pos A,if_pos A];rfl
 ·rw[if_neg A,if_neg A];obtain⟨at_,zc⟩:=ad (sk s i);obtain⟨k,zg⟩:=ad (run ao s at_);obtain⟨t,ht⟩:=ad (s.extract at_ k);rw[zc,zg,ht];unfold cC;by_cases W:aL s k 61=true
  ·rw[if_pos W,if_pos W];unfold pE;simp only[];obtain⟨B,M⟩:=ad (sk s (am s k 61));obtain⟨e2,H⟩:=ad (run aP s B);rw[M,H];by_cases U:jq s B e2=true;·rw[if_pos U,if_pos U];rfl
   ·rw[if_neg U,if_neg U];obtain⟨n,hn⟩:=ad (dv s B (e2-B));rw[hn];have l:=MI t f hk;unfold yP at l;by_cases r:aI bS t 0<0\/fM f (aI bS t 0).toNat=false
    ·rw[if_pos r];rw[if_pos r]at l;have w:pA t f C=some 7:=by unfold pA;rw[l]
     rw[w];refine⟨rfl,rfl,h.len,λe=>absurd e (mK _ _ _),λg x how=>?_,h.z⟩;rw[h.q g x how,xa];constructor;·omega
     ·rintro(q|rfl);·exact q
      ·exfalso;rcases r with h1|h1
       ·have T:=(rV g f x hk);rw[l]at T;unfold yP at T;rw[if_neg (by
         have zj:∀i,i<12->¬aI bS (gK i) 0<0:=by decide
         grind)]at T;cases T
       ·have zj:∀i,i<12->(aI bS (gK i) 0).toNat=i:=by decide
        grind
    ·rw[if_neg r];rw[if_neg r]at l;have Q:¬aI bS t 0<0:=λq=>r (.inl q);have how:fM f (aI bS t 0).toNat=true:=by
      cases ho:fM f (aI bS t 0).toNat with
      |true=>rfl
      |false=>grind
     obtain⟨x,O⟩:=E7 Q;obtain⟨g,K⟩:=ad ((aI bS t 0).toNat);have J:aI bS t 0=(g:Int):=dg;rw[K]at l how x O⊢;rw[J];have F:=h.q g x how;rw[O]at F;have zb:uN t f=g:=by unfold uN;rw[l];rfl
     rw[zb];have j:∀v,v<12->fM f v=true->((g::seen).contains v=true↔0<=aI (C++[t]) (gK v) 0):=λv I P=>by rw[xa,<-h.q v I P,List.contains_cons];grind[OI]
     have y:(g::seen).contains 0=false->(a.set g n)[0]?.getD 0=0:=λe=>by
      rw[List.contains_cons]at e;simp only[Bool.or_eq_false_iff]at e;have zh:g≠0:=λq=>rd;rw[sE zh];exact h.z e.2
     have zl:0<=n:=by have:=(NH s (am s k 61) (-1)).1;unfold nV at this;rw[if_pos (by decide),M,H,hn]at this;exact this
     by_cases V:seen.contains g=true
     ·have hf:=F.1 V;have w:pA t f C=some 5:=by unfold pA;rw[l];simp only[if_pos hf]
      rw[w,V];have X:bn true m 5 at_=gI m 5 at_:=rfl;rw[X,jj,jj];exact⟨rfl,rfl,h.len,λe=>absurd e (mK _ _ _),j,y⟩
     ·have hf:¬0<=aI C t 0:=λq=>V (F.2 q);have w:pA t f C=none:=by unfold pA;rw[l];simp only[if_neg hf]
      have G:seen.contains g=false:=by simpa using V
      rw[w,G];have X:bn false m 5 at_=m:=rfl;rw[X];show _=_/\_=_/\Gu f up L _ _ _ _ _;by_cases N:me g<n
      ·have D:bn (decide (gX[g]?.getD 0<n)) m 6 B=gI m 6 B:=by rw[<-NG,decide_eq_true N];rfl
       have Y:vG p g n=some 6:=by unfold vG;rw[if_pos N]
       have S:setL p L.length g n=p:=by unfold setL;rw[if_pos (.inl N)]
       rw[D,jj,Y,S];exact⟨rfl,rfl,h.len,λe=>absurd e (mK _ _ _),j,y⟩
      ·have D:bn (decide (gX[g]?.getD 0<n)) m 6 B=m:=by rw[<-NG,decide_eq_false N];rfl
       have Y:vG p g n=if tb p g n=true then some 5 else none:=by unfold vG;rw[if_neg N]
       have S:setL p L.length g n=if tb p g n=true then p else p.modify L.length λd=>{d with attr:=d.attr.set g n}:=by
        unfold setL;by_cases R:tb p g n=true;·grind
        ·grind
       rw[D,Y];by_cases E:m=none
       ·have Z:=h.same E;have R:tb p g n=(decide ((g:Int)=0/\0<n)&&em L n):=by
         unfold tb;by_cases ze:g=0;·subst ze;have za:=h.z G;rw[Z,xr];show((0:Nat)==0&&(n !=mD 0)&&(em L n||(a[0]?.getD 0==n)))=_;rw[za];have hw:mD 0=0:=rfl;grind
         ·grind[pH]
        rw[<-R];by_cases u:tb p g n=true;·rw[if_pos u,S,if_pos u,u];exact⟨rfl,rfl,h.len,λe=>absurd e (mK _ _ _),j,y⟩
        ·rw[if_neg u,S,if_neg u];have zi:tb p g n=false:=by simpa using u
         rw[zi];refine⟨rfl,rfl,by simpa using h.len,λ_=>?_,j,y⟩;grind[CM]
       ·have k1:∀b,bn b m 5 B=m:=λb=>by grind[bn,wC]
        have k2:∀o,iY m o B=m:=λo=>by cases o with
         |none=>rfl
         |some c=>exact wC E _ _
        rw[k1,k2];exact⟨rfl,rfl,by rw[o6];exact h.len,λe=>absurd e E,j,y⟩
  ·rw[if_neg W,if_neg W];rfl
theorem xA s i c:aL s (sk s i) c=aL s i c:=by unfold aL;rw[kF]
theorem xm s i c:am s (sk s i) c=am s i c:=by unfold am;rw[kF]
theorem ve{s}{i c}(h:¬aL s i c=true):am s i c=sk s i:=by grind[aL,am]
def Uo(kind:Nat)(up:Int)(L:List Nd)(r:Except Nat (Nat×fA×List Int))(r':Except Nat (Nat×fA×List Nd)):Prop:=match r,r' with
 |.error b,.error b'=>b=b'
 |.ok (i,er,a),.ok (i',Sh,L')=>i=i'/\er=Sh/\L'.length=L.length+1/\(er=none->L'=grown L ⟨kind,a,[],[],up⟩)
 |_,_=>False
theorem wH{s}{c}{up}{L}(o:c<7):∀f i d a seen e g,Gu c up L d a seen e g->Uo c up L (dw s c L f i d a seen) (dL s c L.length f i d e g)
 |0,i,d,a,seen,e,g,h=>rfl
 |f+1,i,d,a,seen,e,g,h=>by
  have w:=Et (s:=s) o h i;unfold dw dL;revert w;cases gP s c L i d a seen with
  |error b=>
   cases eD s c g e L.length i d with
   |error p=>exact λq=>q
   |ok r=>exact λq=>q.elim
  |ok r=>
   obtain⟨l,u,z,n⟩:=r;cases eD s c g e L.length i d with
   |error p=>exact λq=>q.elim
   |ok x=>
    obtain⟨A,v,y,t⟩:=x;rintro⟨rfl,rfl,m⟩;show Uo c up L (if aL s l 59=true then _ else _) (if aL s l 59=true then _ else _);by_cases j:aL s l 59=true;·rw[if_pos j,if_pos j];exact wH o f _ _ _ _ _ _ m
    ·rw[if_neg j,if_neg j,ve j];unfold mj cC;rw[xA,xm,kF];by_cases k:aL s l 125=true;·rw[if_pos k,if_pos k];exact⟨rfl,rfl,m.len,m.same⟩
     ·rw[if_neg k,if_neg k];rfl
structure vV(a b:PS):Prop where
 i:a.i=b.i
 er:a.er=b.er
 len:a.L.length=b.L.length
 same:a.er=none->a.L=b.L
def AA(r r':Except Nat PS):Prop:=match r,r' with
 |.error b,.error b'=>b=b'
 |.ok a,.ok b=>vV a b
 |_,_=>False
theorem vV.to{a b}(h:vV a b)i:vV {a with i:=i} {b with i:=i}:=⟨rfl,h.er,h.len,h.same⟩
theorem H8{s:ByteArray}{a b:PS}{c:Nat}(h:vV a b):AA (match cC s a.i c with
 |.error e=>.error e
 |.ok i=>.ok {a with i:=i}) (dG s b c):=by
 unfold cC dG;rw[h.i];by_cases d:aL s b.i c=true;·rw[if_pos d,if_pos d];exact h.to _
 ·rw[if_neg d,if_neg d];rfl
theorem Oi{s}{b}{c}:dG s {b with i:=sk s b.i} c=dG s b c:=by grind[dG,aL,sk,xA,am,xm,kF]
theorem Ds{s}{g d}(n:∀a b,vV a b->AA (g a) (d b)):∀f a b,vV a b->AA (dD s g f a) (gA s d f b)
 |0,a,b,h=>h.i
 |f+1,a,b,h=>by
  have h1:=n a b h;unfold dD gA;revert h1;cases g a with
  |error e=>
   cases d b with
   |error o=>grind
   |ok l=>exact λq=>q.elim
  |ok m=>
   cases d b with
   |error o=>exact λq=>q.elim
   |ok l=>
    intro p;have j:vV m l:=p;show AA (if aL s m.i 44=true then _ else _) (if aL s l.i 44=true then _ else _);rw[j.i];by_cases k:aL s l.i 44=true;·rw[if_pos k,if_pos k];exact Ds n f _ _ (j.to _)
    ·rw[if_neg k,if_neg k,ve k,Oi];have:=H8 (s:=s) (c:=93) j;rw[j.i]at this;omega
theorem pB{L M}{d e}(h:L.length=M.length):(grown L d).length=(grown M e).length:=by grind[dk]
theorem MO{s:ByteArray}{c:Nat}{a b:PS}(h:vV a b):AA (match dU s a.i with
 |.error e=>.error e
 |.ok (d,t)=>.ok {a with i:=d,L:=aA a.L c t}) (gY s c b):=by
 unfold gY;rw[h.i];cases dU s b.i with
 |error e=>rfl
 |ok r=>obtain⟨d,t⟩:=r;exact⟨rfl,h.er,by show(aA a.L c t).length=(aA b.L c t).length;unfold aA;simpa using h.len,λq=>by show aA a.L c t=aA b.L c t;rw[h.same q]⟩
theorem L8{s:ByteArray}{d c:PS->Except Nat PS}(k:∀a b,vV a b->AA (d a) (c b)){a b:PS}(h:vV a b):AA (match cC s a.i 91 with
 |.error e=>.error e
 |.ok j=>if aL s j 93 then .ok {a with i:=am s j 93}else dD s d (s.size+1) {a with i:=sk s j}) (gp s c b):=by
 unfold cC gp;rw[h.i];by_cases g:aL s b.i 91=true
 ·rw[if_pos g,if_pos g];show AA (if aL s (am s b.i 91) 93=true then _ else _) _;by_cases f:aL s (am s b.i 91) 93=true;·rw[if_pos f,if_pos f];exact h.to _
  ·rw[if_neg f,if_neg f,ve f];exact Ds k _ _ _ (h.to _)
 ·rw[if_neg g,if_neg g];rfl
theorem OL{s:ByteArray}{f d:PS->Except Nat PS}(m:∀a b,vV a b->AA (f a) (d b)){a b:PS}(h:vV a b):AA (match cC s a.i 91 with
 |.error e=>.error e
 |.ok n=>match f {a with i:=n}with
  |.error e=>.error e
  |.ok g=>match cC s g.i 93 with
   |.error e=>.error e
   |.ok o=>.ok {g with i:=o}) (ot s d b):=by
 unfold cC ot;rw[h.i];by_cases j:aL s b.i 91=true
 ·rw[if_pos j,if_pos j];have h1:=m _ _ (h.to (am s b.i 91));unfold nc;revert h1;show AA (f {a with i:=am s b.i 91}) _->AA (match f {a with i:=am s b.i 91}with
   |.error e=>.error e
   |.ok g=>_) _;cases f {a with i:=am s b.i 91}with
  |error e=>
   cases d {b with i:=am s b.i 91}with
   |error l=>grind
   |ok k=>exact λq=>q.elim
  |ok p=>
   cases d {b with i:=am s b.i 91}with
   |error l=>exact λq=>q.elim
   |ok k=>exact λq=>H8 (s:=s) (c:=93) q
 ·rw[if_neg j,if_neg j];rfl
theorem Da{s}{c f}{e d}(l:c<7)(k:∀a b,vV a b->AA (e a) (d b)){a b}(h:vV a b):AA (iw s c f e a) (na s c f d b):=by
 unfold iw na;by_cases i:c<3;·rw[if_pos i,if_neg dg,if_neg dg,if_neg dg];exact L8 k h
 ·rw[if_neg i];by_cases j:c<5;·rw[if_pos j,if_neg dg,if_neg dg,if_pos dg];exact OL k h
  ·rw[if_neg j];by_cases g:c=5;·rw[if_pos g,if_pos g];exact MO h
   ·rw[if_neg g,if_neg g,if_pos dg];exact h
theorem JD b n a p:bn (decide (12<=a)) (bn (decide (100<=n)) b 3 p) 4 p=iY b (jC n a) p:=by
 unfold jC;by_cases h1:100<=n;·rw[decide_eq_true h1,if_pos h1];show bn _ (gI b 3 p) 4 p=_;rw[jj];rfl
 ·rw[decide_eq_false h1,if_neg h1];show bn _ b 4 p=_;by_cases c:12<=a;·rw[decide_eq_true c,if_pos c];rfl
  ·rw[decide_eq_false c,if_neg c];rfl
theorem vm{s}{i}(e:run ao s (sk s i)=sk s i):dE s i<0:=by
 have:mE s i=ByteArray.empty:=by unfold mE;rw[e];apply kM;simp
 unfold dE;rw[this];decide
theorem Bq{a}{o}{p}(h:iY a o p=none):a=none:=by
 cases o with
 |none=>exact h
 |some c=>exact absurd h (mK _ _ _)
theorem Dy{s}:∀f  up  c a b,vV a b->AA (cD s f up c a) (aK s f up c b)
 |0,up,c,a,b,h=>h.i
 |f+1,up,c,a,b,h=>by
  unfold cD aK;simp only[];rw[h.i,h.len];have v:aI bU (s.extract (sk s b.i) (run ao s (sk s b.i))) 0=dE s b.i:=rfl;rw[v];by_cases g:dE s b.i<0;·rw[if_pos (.inr g),if_pos g];rfl
  ·have t:¬run ao s (sk s b.i)=sk s b.i:=λe=>g (vm e);rw[if_neg (by rintro(q|q);exact t q;exact g q),if_neg g];have H:=tU s b.i;obtain⟨d,n⟩:=ad ((dE s b.i).toNat);have p:d<7:=dg
   obtain⟨k,u⟩:=ad (run ao s (sk s b.i));rw[n,u,JD,h.er];obtain⟨j,m⟩:=ad (iY b.er (jC b.L.length c) (sk s b.i));rw[m];have A:=λq=>h.same (by rw[h.er];exact Bq (m.trans q));have l:∀x y,vV x y->AA (cD s f (b.L.length:Int) (c+1) x) (aK s f (b.L.length:Int) (c+1) y):=λx y w=>Dy f _ _ x y w;unfold cW Mf;by_cases o:aL s k 123=true;·rw[if_pos o,if_pos o];have F:Gu d up a.L j aQ [] (grown b.L ⟨d,aQ,[],[],up⟩) []:=⟨by rw[dk,h.len],λq=>by rw[A q],λQ G how=>by simp[aI],λ_=>rfl⟩;have B:=wH (s:=s) p (s.size+1) (am s k 123) j aQ [] _ [] F;rw[h.len]at B;revert B;cases N:dw s d a.L (s.size+1) (am s k 123) j aQ []with
    |error e=>
     cases dL s d b.L.length (s.size+1) (am s k 123) j (grown b.L ⟨d,aQ,[],[],up⟩) []with
     |error C=>exact λq=>q
     |ok r=>exact λq=>q.elim
    |ok r=>
     obtain⟨O,D,M⟩:=r;cases hy:dL s d b.L.length (s.size+1) (am s k 123) j (grown b.L ⟨d,aQ,[],[],up⟩) []with
     |error C=>exact λq=>q.elim
     |ok K=>obtain⟨P,E,z⟩:=K;rintro⟨rfl,rfl,I,J⟩;exact Da p l ⟨rfl,rfl,by show(grown a.L _).length=z.length;rw[dk,I],λq=>by show grown a.L _=z;exact(J q).symm⟩
   ·rw[if_neg o,if_neg o,ve o];exact Da p l ⟨rfl,rfl,pB h.len,λq=>by show grown a.L _=grown b.L _;rw[A q]⟩
def conv:Except (Option (Nat×Nat)) (List Nd)->Except (Nat×Nat) (List Nd)
 |.ok L=>.ok L
 |.error none=>.error (1,0)
 |.error (some f)=>.error f
theorem vO s:conv (bJ s)=fu s:=by
 unfold bJ fu;by_cases d:4000<s.size;·rw[if_pos d,if_pos d];rfl
 ·rw[if_neg d,if_neg d];have h:=Dy (s:=s) (s.size+1) (-1) 0 ⟨0,[],none⟩ ⟨0,[],none⟩ ⟨rfl,rfl,rfl,λ_=>rfl⟩;revert h;cases cD s (s.size+1) (-1) 0 ⟨0,[],none⟩with
  |error b=>
   cases aK s (s.size+1) (-1) 0 ⟨0,[],none⟩with
   |error g=>rintro rfl;rfl
   |ok st=>exact λq=>q.elim
  |ok a=>
   cases aK s (s.size+1) (-1) 0 ⟨0,[],none⟩with
   |error g=>exact λq=>q.elim
   |ok b=>
    intro h;have c:vV a b:=h;show conv (yh s b)=if sk s a.i<s.size then _ else _;unfold yh;rw[c.i,c.er];by_cases e:sk s b.i<s.size;·rw[if_pos e,if_pos e];rfl
    ·rw[if_neg e,if_neg e];cases j:b.er with
     |some f=>rfl
     |none=>show Except.ok b.L=Except.ok a.L;rw[c.same (by rw[c.er,j])]
def CR(f:fA):Prop:=∀c p,f=some (c,p)->2<=c/\c<=7
theorem CR.none:CR none:=λc p e=>by cases e
theorem CR.add{f}(h:CR f){c}(a:2<=c/\c<=7)p:CR (gI f c p):=by
 cases f with
 |none=>intro b d e;cases e;exact a
 |some x=>exact h
theorem CR.addI{f}(h:CR f)b{c}(a:2<=c/\c<=7)p:CR (bn b f c p):=by
 cases b with
 |false=>exact h
 |true=>exact h.add a p
theorem Qd{b}{L}{c}{a}{seen}{st}(h:CR c):CR (fa b L c a seen st).1:=by
 unfold fa;split;·exact h.add dg _
 ·exact((h.addI _ dg _).addI _ dg _).addI _ dg _
theorem G7{s}{b}{L}{i}{d}{a}{seen}{e}{c}{f}{j}(h:CR d)(hh:gP s b L i d a seen=.ok (e,c,f,j)):CR c:=by rcases lW s b L i d a seen (-1) dg with⟨_,g⟩|⟨_,g⟩;all_goals grind[Qd,bc]
theorem tB{s}{d}{L}:∀  f i   g   a   seen   l   c   k,CR g->dw s d L f i g a seen=.ok (l,c,k)->CR c
 |0,i,g,a,seen,l,c,k,h,e=>by cases e
 |f+1,i,g,a,seen,l,c,k,h,e=>by
  cases h1:gP s d L i g a seen with
  |error b=>simp_all[lX]
  |ok q=>
   obtain⟨j,n,p,r⟩:=q;have o:=G7 h h1;by_cases m:aL s j 59=true;·rw[jT h1 m]at e;exact tB f _ _ _ _ _ _ _ o e
   ·rw[jS h1 m]at e;grind[jY]
theorem Eu{s}{b}{L}{i}{c}{f}{a}{d}(h:CR c)(e:cW s b L i c=.ok (f,a,d)):CR a:=by grind[cW,tB]
theorem xF{s}{c}(g:∀st a,CR st.er->c st=.ok a->CR a.er):∀  f   st a,CR st.er->dD s c f st=.ok a->CR a.er
 |0,st,a,h,e=>by cases e
 |f+1,st,a,h,e=>by
  rw[dD]at e;cases h1:c st with
  |error b=>grind
  |ok d=>
   rw[h1]at e;simp only at e;have i:=g st d h h1;split at e;·exact xF g f _ a (by exact i) e
   grind
theorem G_{s}{c k}{b}(d:∀st a,CR st.er->b st=.ok a->CR a.er){st a}(h:CR st.er)(e:iw s c k b st=.ok a):CR a.er:=by
 unfold iw at e;split at e
 ·split at e;·cases e
  ·split at e;·grind
   ·exact xF d _ _ _ (by exact h) e
 grind
theorem xS{s}:∀  f   up   c   st d,CR st.er->cD s f up c st=.ok d->CR d.er
 |0,up,c,st,d,h,e=>by cases e
 |f+1,up,c,st,d,h,e=>by
  rw[cD]at e;split at e;·cases e
  ·split at e;·cases e
   ·rename_i h1;exact G_ (λa b=>xS f _ _ a b) (Eu ((h.addI _ dg _).addI _ dg _) h1) e
theorem rx{s}{c p}(h:bJ s=.error (some (c,p))):2<=c/\c<=7:=by
 have h1:=vO s;rw[h]at h1;have a:fu s=.error (c,p):=h1.symm;unfold fu at a;split at a;·grind[bJ]
 ·split at a;·grind
  ·rename_i st b;have d:=xS _ _ _ _ _ (CR.none) b;split at a;·grind
   ·split at a;·rename_i f e;injection a with a;exact d c p rd
    grind
