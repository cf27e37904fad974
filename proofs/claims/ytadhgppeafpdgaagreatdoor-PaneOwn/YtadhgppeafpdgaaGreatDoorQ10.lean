import Derived.Test.YtadhgppeafpdgaaGreatDoorQ08
import Derived.Test.YtadhgppeafpdgaaGreatDoorQ02
set_option linter.all false
set_option maxRecDepth 100000
set_option maxHeartbeats 16000000
namespace Go.Proofs.YtadhgppeafpdgaaGreatDoor
open Go.RowKit Go.Sort Go.Proofs.Tryz
theorem rv4{a b c d a' b' c' d'}(h0:a=a')(h1:b=b')(h2:c=c')(h3:d=d'):Ending.returned (.agg #[Iq a,Iq b,Iq c,Iq d])=Ending.returned (rv a' b' c' d'):=by subst h0 h1 h2 h3;rfl
def Fg(x y a b n:Int):Value:=rv (bM x+min (bD n) (bD a/2)) (bM y+min (bD n) (bD b/2)) (max 0 (bD a-2*bD n)) (max 0 (bD b-2*bD n))
theorem KJ(x y a b n:Int)(w:World):Cw 164 #[rv x y a b,Iq n] w fun e w'=>e=Rw (Fg x y a b n)/\Gr w w':=by
 have CC:Hid (∀x y a b w,Cw 166 #[rv x y a b] w fun e w'=>e=Rw (rv (bM x) (bM y) (bD a) (bD b))/\Gr w w'):=clamped_gr;have LL:Hid (∀n w,Cw 118 #[Iq n] w fun e w'=>e=Rw (Iq (bD n))/\w'=w):=length_any;have b1:=eO x;have b2:=eO y;have b3:=dq a;have b4:=dq b;have b5:=dq n;obtain⟨A,hA⟩:=af (bM x);obtain⟨B,hB⟩:=af (bM y);obtain⟨C,hC⟩:=af (bD a);obtain⟨D,hD⟩:=af (bD b);obtain⟨m,hm⟩:=af (bD n);have HV:Hid (Fg x y a b n=rv (A+min m (C/2)) (B+min m (D/2)) (max 0 (C-2*m)) (max 0 (D-2*m))):=by show _=_;unfold Fg;rw[hA,hB,hC,hD,hm]
 rw[hA]at b1;rw[hB]at b2;rw[hC]at b3;rw[hD]at b4;rw[hm]at b5;unfold rv at CC⊢;go_enter func164,ntmps164;go_wp2_with fail;obtain⟨W0,bc⟩:=af ((w.alloc (.cells #[Iq x,Iq y,Iq a,Iq b] 100)).alloc (.cells #[Iq 0,Iq 0,Iq 0,Iq 0] 100));obtain⟨S,hS⟩:=af w.heap.size;have HS:Hid (w.heap.size=S):=hS;have G0:Hid (Gr w W0):=by rw[<-bc];exact((Gr.refl w).alloc _).alloc _
 have RA:Hid (R4 100 W0 S x y a b):=by rw[<-bc,<-hS];exact(R4.new w _ _ _ _ _).gr ((Gr.refl _).alloc _)
 have RC:Hid (R4 100 W0 (S+1) 0 0 0 0):=by have:=R4.new (w.alloc (.cells #[Iq x,Iq y,Iq a,Iq b] 100)) 0 0 0 0 100;simp only[aA,hS]at this;rw[<-bc];exact this
 rw[bc,hS];clear bc hS;refine(CC _ _ _ _ _).mono ?_;rintro e w2 ⟨rfl,lz⟩;have HG:Hid (Gr w w2):=G0.trans lz;have R2:Hid (R4 100 w2 S x y a b):=RA.gr lz;have RC2:Hid (R4 100 w2 (S+1) 0 0 0 0):=RC.gr lz;clear lz RA RC G0;have c0:=R2.c0;have c1:=R2.c1;have c2:=R2.c2;have c3:=R2.c3;have f0:=R2.fz 0;have f1:=R2.fz 1;have f2:=R2.fz 2;have f3:=R2.fz 3;rw[hA,hB,hC,hD];go_wp2_with fail;obtain⟨w3,TS⟩:=af ((((w2.setCell (aq S 0) (Iq A)).setCell (aq S 1) (Iq B)).setCell (aq S 2) (Iq C)).setCell (aq S 3) (Iq D));have Gy:Hid (Gr w w3):=by rw[<-TS];exact HG.set4 (by rw[HS.out];omega) _ _ _ _
 have R3:Hid (R4 100 w3 S A B C D):=by rw[<-TS];exact R2.set A B C D
 have Sy:Hid (R4 100 w3 (S+1) 0 0 0 0):=by rw[<-TS];exact RC2.others (by omega) _ _ _ _
 rw[TS];clear TS c0 c1 c2 c3 f0 f1 f2 f3 R2 RC2 HG;refine(LL _ _).mono ?_;rintro e w4 ⟨rfl,_A⟩;obtain rfl:=_A.symm;rw[hm];have c0:=R3.c0;have c1:=R3.c1;have c2:=R3.c2;have c3:=R3.c3;have d0:=Sy.c0;have d1:=Sy.c1;have d2:=Sy.c2;have d3:=Sy.c3;have f0:=Sy.fz 0;have f1:=Sy.fz 1;have f2:=Sy.fz 2;have f3:=Sy.fz 3;clear hA hB hC hD hm;have q1:C.tdiv 2=C/2:=Q_ b3.1;have q2:D.tdiv 2=D/2:=Q_ b4.1;obtain⟨p,hp⟩:=af (C/2);obtain⟨q,hq⟩:=af (D/2);rw[hp]at q1 HV;rw[hq]at q2 HV;have k1:2*p<=C/\C<=2*p+1:=by omega
 have k2:2*q<=D/\D<=2*q+1:=by omega
 clear hp hq;rcases(by omega:(2*m<=C/\m<=p/\0<=C-2*m)\/(C<2*m/\p<=m/\C-2*m<0))with⟨h1,xC,zfP⟩|⟨h1,xC,zfP⟩<;>rcases(by omega:(2*m<=D/\m<=q/\0<=D-2*m)\/(D<2*m/\q<=m/\D-2*m<0))with⟨h2,zn,zfS⟩|⟨h2,zn,zfS⟩;all_goals go_wp2
 all_goals refine bodyPost_ret (results_cell_row rfl _ _ (S+1) _ _ _ _ rfl (Sy.set _ _ _ _) underlying100 rfl (by kernel_rfl)) rfl ?_;exact⟨by rw[HV.out];grind[rv4],Gy.set4 (by rw[HS.out];omega) _ _ _ _⟩
def LS(n f:Int):Int:=if n=0 then 0 else if n=39 then 0 else if 30<=n/\n<=37 then n-29 else f
def LU(n g:Int):Int:=if n=0 then 0 else if n=49 then 0 else if 40<=n/\n<=47 then n-39 else g
def M9(n b:Int):Int:=if n=0 then 0 else if n=1 then 1 else if n=22 then 0 else b
theorem yK{n:Int}(f:Int)(h0:n≠0)(h1:n≠39)(h2:¬(30<=n/\n<=37)):LS n f=f:=by unfold LS;rw[if_neg h0,if_neg h1,if_neg h2]
theorem yL{n:Int}(f:Int)(h0:n≠0)(h1:n≠49)(h2:¬(40<=n/\n<=47)):LU n f=f:=by unfold LU;rw[if_neg h0,if_neg h1,if_neg h2]
theorem tH{n:Int}(f:Int)(h0:n≠0)(h1:n≠1)(h2:n≠22):M9 n f=f:=by unfold M9;rw[if_neg h0,if_neg h1,if_neg h2]
theorem M_{n:Int}(f:Int)(h:30<=n/\n<=37):LS n f=n-29:=by unfold LS;rw[if_neg (by omega),if_neg (by omega),if_pos h]
theorem Na{n:Int}(f:Int)(h:40<=n/\n<=47):LU n f=n-39:=by unfold LU;rw[if_neg (by omega),if_neg (by omega),if_pos h]
theorem AY(f g b n:Int)(w:World):Calls Tryz.prog 191 #[sv f g b,.int .i64 n] w fun e w'=>e=Rw (sv (LS n f) (LU n g) (M9 n b))/\Gr w w':=by
 by_cases h0:n=0;·subst h0;unfold sv;go_enter Tryz.func191,Tryz.ntmps191;go_wp2;refine bodyPost_ret (v:=sv 0 0 0) (by simp[results,Tryz.results191,go_sem,sv]) rfl ?_;exact⟨by rfl,((Gr.refl w).alloc _).alloc _⟩
 by_cases h1:n=1;·subst h1;unfold sv;go_enter Tryz.func191,Tryz.ntmps191;go_wp2;refine bodyPost_ret (v:=sv f g 1) (by simp[results,Tryz.results191,go_sem,sv]) rfl ?_;exact⟨by rfl,((Gr.refl w).alloc _).alloc _⟩
 by_cases h2:n=22;·subst h2;unfold sv;go_enter Tryz.func191,Tryz.ntmps191;go_wp2;refine bodyPost_ret (v:=sv f g 0) (by simp[results,Tryz.results191,go_sem,sv]) rfl ?_;exact⟨by rfl,((Gr.refl w).alloc _).alloc _⟩
 by_cases h3:n=39;·subst h3;unfold sv;go_enter Tryz.func191,Tryz.ntmps191;go_wp2;refine bodyPost_ret (v:=sv 0 g b) (by simp[results,Tryz.results191,go_sem,sv]) rfl ?_;exact⟨by rfl,((Gr.refl w).alloc _).alloc _⟩
 by_cases h4:n=49;·subst h4;unfold sv;go_enter Tryz.func191,Tryz.ntmps191;go_wp2;refine bodyPost_ret (v:=sv f 0 b) (by simp[results,Tryz.results191,go_sem,sv]) rfl ?_;exact⟨by rfl,((Gr.refl w).alloc _).alloc _⟩
 by_cases h5:30<=n/\n<=37
 ·rw[M_ f h5,yL g h0 h4 (by omega),tH b h0 h1 h2];have q1:29<n:=by omega
  have q2:n<=37:=by omega
  unfold sv;go_enter Tryz.func191,Tryz.ntmps191;go_wp2;refine bodyPost_ret (v:=sv (n-29) g b) (by simp[results,Tryz.results191,go_sem,sv]) rfl ?_;exact⟨by rfl,((Gr.refl w).alloc _).alloc _⟩
 by_cases h6:40<=n/\n<=47
 ·rw[yK f h0 h3 h5,Na g h6,tH b h0 h1 h2];have q0:¬(29<n/\n<=37):=by omega
  have q1:39<n:=by omega
  have q2:n<=47:=by omega
  have q3:¬n<=37:=by omega
  have q4:29<n:=by omega
  unfold sv;go_enter Tryz.func191,Tryz.ntmps191;go_wp2;refine bodyPost_ret (v:=sv f (n-39) b) (by simp[results,Tryz.results191,go_sem,sv]) rfl ?_;exact⟨by rfl,((Gr.refl w).alloc _).alloc _⟩
 rw[yK f h0 h3 h5,yL g h0 h4 h6,tH b h0 h1 h2];unfold sv;go_enter Tryz.func191,Tryz.ntmps191;go_wp2;all_goals refine bodyPost_ret (v:=sv f g b) (by simp[results,Tryz.results191,go_sem,sv]) rfl ?_;exact⟨by rfl,((Gr.refl w).alloc _).alloc _⟩
def vZ(zs:List Int)(f:Int):Int:=zs.foldl (fun f n=>LS n f) f
def v_(zs:List Int)(g:Int):Int:=zs.foldl (fun g n=>LU n g) g
def vY(zs:List Int)(b:Int):Int:=zs.foldl (fun b n=>M9 n b) b
theorem M7(zs:List Int)(k:Nat)(f:Int)(h:k<zs.length):vZ (zs.take (k+1)) f=LS (zs[k]?.getD 0) (vZ (zs.take k) f):=by unfold vZ;rw[ip h,ym];simp[h]
theorem M8(zs:List Int)(k:Nat)(f:Int)(h:k<zs.length):v_ (zs.take (k+1)) f=LU (zs[k]?.getD 0) (v_ (zs.take k) f):=by unfold v_;rw[ip h,ym];simp[h]
theorem M6(zs:List Int)(k:Nat)(f:Int)(h:k<zs.length):vY (zs.take (k+1)) f=M9 (zs[k]?.getD 0) (vY (zs.take k) f):=by unfold vY;rw[ip h,ym];simp[h]
def yN(zs:List Int)(f:Int):Int:=if zs=[]then 0 else vZ zs (kn f)
def yO(zs:List Int)(f:Int):Int:=if zs=[]then 0 else v_ zs (kn f)
def yM(zs:List Int)(f:Int):Int:=if zs=[]then 0 else vY zs (bo f)
theorem Ex(f g b:Int)(a:Option Addr)(cap:Nat)(w:World):Calls Tryz.prog 141 #[sv f g b,.slice a 0 cap] w fun e w'=>e=Rw (sv 0 0 0)/\Gr w w':=by have CC:Hid (∀f g b w,Calls Tryz.prog 128 #[sv f g b] w fun e w'=>e=Rw (sv (kn f) (kn g) (bo b))/\Gr w w'):=jm;unfold sv at CC⊢;go_enter Tryz.func141,Tryz.ntmps141;go_wp2;refine bodyPost_ret (v:=sv 0 0 0) (by simp[results,Tryz.results141,go_sem,sv]) rfl ?_;exact⟨rfl,((Gr.refl w).alloc _).alloc _⟩
theorem Ey(f g b:Int)(zs:List Int)(B off cap:Nat)(w:World)(hp:0<zs.length)(hB:B<w.heap.size)(hc:∀j,j<zs.length->w.cell? (aq B (off+j))=some (.int .i64 (zs[j]?.getD 0)))(aO:zs.length<=17592186044416):
 Calls Tryz.prog 141 #[sv f g b,.slice (some (aq B off)) zs.length cap] w fun e w'=>e=Rw (sv (vZ zs (kn f)) (v_ zs (kn g)) (vY zs (bo b)))/\Gr w w':=by
 have HC:Hid (∀j,j<zs.length->w.cell? (aq B (off+j))=some (.int .i64 (zs[j]?.getD 0))):=hc;clear hc;have CC:Hid (∀f g b w,Calls Tryz.prog 128 #[sv f g b] w fun e w'=>e=Rw (sv (kn f) (kn g) (bo b))/\Gr w w'):=jm;have AA:Hid (∀f g b n w,Calls Tryz.prog 191 #[sv f g b,.int .i64 n] w fun e w'=>e=Rw (sv (LS n f) (LU n g) (M9 n b))/\Gr w w'):=AY;obtain⟨x,hx⟩:∃z,kn f=z:=⟨_,rfl⟩;obtain⟨y,hy⟩:∃z,kn g=z:=⟨_,rfl⟩;obtain⟨z,hz⟩:∃z,bo b=z:=⟨_,rfl⟩;have C1:Hid (∀w,_):=CC.out f g b;rw[hx,hy,hz]at C1⊢;clear CC hx hy hz;unfold sv at C1 AA⊢;have _q:¬((zs.length:Int)=0):=by omega
 have ql:((zs.length:Int)==0)=false:=by simpa using _q
 have hpd:decide ((zs.length:Int)=0)=false:=by simpa using _q
 go_enter Tryz.func141,Tryz.ntmps141;go_wp2_with fail;obtain⟨S,hS⟩:∃x,w.heap.size=x:=⟨_,rfl⟩;obtain⟨W0,bc⟩:∃x,(w.alloc (.cells #[.int .i64 f,.int .i64 g,.int .i64 b] 45)).alloc (.cells #[.int .i64 0,.int .i64 0,.int .i64 0] 45)=x:=⟨_,rfl⟩;have G0:Hid (Gr w W0):=by rw[<-bc];exact((Gr.refl w).alloc _).alloc _
 have RA:Hid (R3 45 W0 S f g b):=by rw[<-bc,<-hS];exact(R3.new w _ _ _ _).gr ((Gr.refl _).alloc _)
 have RC:Hid (R3 45 W0 (S+1) 0 0 0):=by have:=R3.new (w.alloc (.cells #[.int .i64 f,.int .i64 g,.int .i64 b] 45)) 0 0 0 45;simp only[aA,hS]at this;rw[<-bc];exact this
 rw[bc,hS];clear bc;have HS:Hid (w.heap.size=S):=hS;have HB:Hid (B<w.heap.size):=hB;clear hS hB;refine(C1.out _).mono ?_;rintro e w1 ⟨rfl,g1⟩;have VT:=RA.out.gr g1;have R2:Hid (R3 45 _ S x y z):=VT.set x y z;have RC2:Hid (R3 45 _ (S+1) 0 0 0):=(RC.out.gr g1).others (k:=S) (by omega) (.int .i64 x) (.int .i64 y) (.int .i64 z);have G2:Hid (Gr w _):=(G0.out.trans g1).set3 (k:=S) (by rw[HS.out];omega) (.int .i64 x) (.int .i64 y) (.int .i64 z);have a0:=VT.c0;have a1:=VT.c1;have a2:=VT.c2;have f0:=VT.fz 0;have f1:=VT.fz 1;have f2:=VT.fz 2;clear VT g1;go_wp2_with fail;obtain⟨W2,qd⟩:∃q,(((w1.setCell (aq S 0) (.int .i64 x)).setCell (aq S 1) (.int .i64 y)).setCell (aq S 2) (.int .i64 z))=q:=⟨_,rfl⟩;rw[qd]at R2 RC2 G2⊢;clear qd a0 a1 a2 f0 f1 f2 RA RC G0;go_loopw[15] (fun i wr=>∃k:Nat,k<=zs.length/\i=.int .i64 k/\Hid (R3 45 wr S (vZ (zs.take k) x) (v_ (zs.take k) y) (vY (zs.take k) z)/\R3 45 wr (S+1) 0 0 0/\Gr w wr)) (fun i _=>zs.length-(intOf i).toNat);case atStart=>exact⟨0,bm _,rfl,R2.out,RC2.out,G2.out⟩
 case round=>
  obtain⟨k,hk,rfl,HR⟩:=hrel;by_cases hlt:k<zs.length
  ·obtain⟨n,hn⟩:∃q,zs[k]?.getD 0=q:=⟨_,rfl⟩;have Yn:wr.cell? (aq B (off+k))=some (.int .i64 n):=by rw[<-hn];exact(HR.out.2.2.below.cell (p:=(aq B (off+k))) HB.out).trans (HC.out k hlt)
   have N1:Hid (vZ (zs.take (k+1)) x=LS n (vZ (zs.take k) x)):=by rw[<-hn];exact M7 zs k x hlt
   have N2:Hid (v_ (zs.take (k+1)) y=LU n (v_ (zs.take k) y)):=by rw[<-hn];exact M8 zs k y hlt
   have N3:Hid (vY (zs.take (k+1)) z=M9 n (vY (zs.take k) z)):=by rw[<-hn];exact M6 zs k z hlt
   obtain⟨p,vS⟩:∃q,vZ (zs.take k) x=q:=⟨_,rfl⟩;obtain⟨q,lA⟩:∃q,v_ (zs.take k) y=q:=⟨_,rfl⟩;obtain⟨r,hr1⟩:∃q,vY (zs.take k) z=q:=⟨_,rfl⟩;rw[vS,lA,hr1]at HR;rw[vS]at N1;rw[lA]at N2;rw[hr1]at N3;clear hn vS lA hr1;have A1:Hid (∀w,_):=AA.out p q r n;obtain⟨p',hp2⟩:∃q,LS n p=q:=⟨_,rfl⟩;obtain⟨q',nT⟩:∃z,LU n q=z:=⟨_,rfl⟩;obtain⟨r',hr2⟩:∃q,M9 n r=q:=⟨_,rfl⟩;rw[hp2,nT,hr2]at A1;rw[hp2]at N1;rw[nT]at N2;rw[hr2]at N3;clear hp2 nT hr2;have aR:(k:Int)<(zs.length:Int):=by omega
   have b0:=HR.out.1.c0;have b1:=HR.out.1.c1;have b2:=HR.out.1.c2;have bb:B<wr.heap.size:=zz007 HB.out HR.out.2.2.size;go_wp2_with(go_at_call 191;refine ai (A1.out _) ?_;rintro e w5 ⟨rfl,g5⟩;have Sn:Hid (Gr wr w5):=(by first|exact g5|exact((Gr.refl wr).drew).trans g5);have R5:Hid (R3 45 w5 S p q r):=HR.out.1.gr Sn.out;clear g5;have d0:=R5.out.c0;have d1:=R5.out.c1;have d2:=R5.out.c2;have e0:=R5.out.fz 0;have e1:=R5.out.fz 1;have e2:=R5.out.fz 2;have Wm:w5.cell? (aq B (off+k))=some (.int .i64 n):=(Sn.out.below.cell (p:=(aq B (off+k))) bb).trans Yn);all_goals
    go_roundw;case rel=>exact⟨k+1,by omega,by go_num,by show _/\_/\_;rw[N1.out,N2.out,N3.out];exact⟨R5.out.set p' q' r',(HR.out.2.1.gr Sn.out).others (by omega) _ _ _,(HR.out.2.2.trans Sn.out).set3 (by rw[HS.out];omega) _ _ _⟩⟩
    case measure=>simp[intOf];omega
  ·have aR:¬(k:Int)<(zs.length:Int):=by omega
   have jd:k=zs.length:=by omega
   have HK:Hid (R3 45 wr S (vZ zs x) (v_ zs y) (vY zs z)):=by have:=HR.out.1;rw[jd,l6]at this;exact this
   obtain⟨p,vS⟩:∃q,vZ zs x=q:=⟨_,rfl⟩;obtain⟨q,lA⟩:∃q,v_ zs y=q:=⟨_,rfl⟩;obtain⟨r,hr1⟩:∃q,vY zs z=q:=⟨_,rfl⟩;rw[vS,lA,hr1]at HK;have HP:Hid (vZ zs x=p):=vS;have HQ:Hid (v_ zs y=q):=lA;have qU:Hid (vY zs z=r):=hr1;clear vS lA hr1;have b0:=HK.out.c0;have b1:=HK.out.c1;have b2:=HK.out.c2;have c0:=HR.out.2.1.c0;have c1:=HR.out.2.1.c1;have c2:=HR.out.2.1.c2;have k0:=HR.out.2.1.fz 0;have k1:=HR.out.2.1.fz 1;have k2:=HR.out.2.1.fz 2;go_wp2;refine bodyPost_ret (results_cell_row rfl _ _ (S+1) _ _ _ _ rfl (HR.out.2.1.set _ _ _) Tryz.underlying45 rfl (by kernel_rfl)) rfl ?_;exact⟨by rw[HP.out,HQ.out,qU.out],HR.out.2.2.set3 (by rw[HS.out];omega) _ _ _⟩
theorem JF(f g b:Int)(zs:List Int)(v:Value)(w:World)(h:nG w v zs)(aO:zs.length<=17592186044416):Calls Tryz.prog 141 #[sv f g b,v] w fun e w'=>e=Rw (sv (yN zs f) (yO zs g) (yM zs b))/\Gr w w':=by
 obtain⟨a,cap,rfl,hh⟩:=h;by_cases hz:zs=[];·subst hz;exact Ex f g b a cap w
 ·obtain⟨B,off,rfl,hb,hc⟩:=hh.resolve_left hz;unfold yN yO yM;rw[if_neg hz,if_neg hz,if_neg hz];exact Ey f g b zs B off cap w (io.2 hz) hb hc aO
structure Tc where
 x:Int
 y:Int
 f:Int
 g:Int
 b:Int
 lx:Int
 ly:Int
 lt:ByteArray
 lw:Int
 lm:Int
structure Tm where
 W:Nat
 H:Nat
 c:Nat->Nat->Ce
 r:Tc
def W9(K:Nat)(r:Tc)(nv:Value):Array Value:=#[.pointer (some (aq K 0)),.int .i64 r.x,.int .i64 r.y,.int .i64 r.f,.int .i64 r.g,.int .i64 r.b,.int .i64 r.lx,.int .i64 r.ly,.string r.lt,.int .i64 r.lw,.int .i64 r.lm,nv]
structure TM(Q:World)(T K M cap:Nat)(s:Tm)(nv:Value):Prop where
 tb:Q.heap[T]?=some (.cells (W9 K s.r nv) 62 (0,0))
 cs:CS 84 47 Q K M cap s.W s.H s.c
 tk:T≠K
 tm:T≠M
 hW:1<=s.W/\s.W<=400
 hH:1<=s.H/\s.H<=400
 pa:PAll s.W s.H s.c
structure C2(T M:Nat)(W W':World):Prop where
 os:W'.os=W.os
 tape:W'.tape=W.tape
 output:W'.output=W.output
 size:W.heap.size<=W'.heap.size
 block:∀b,b<W.heap.size->b≠T->b≠M->W'.heap[b]?=W.heap[b]?
section
variable{T K M cap:Nat} {s:Tm} {nv:Value} {Q Q' Q2:World}
theorem C2.refl(T M:Nat)(W:World):C2 T M W W:=⟨rfl,rfl,rfl,ae _,fun _ _ _ _=>rfl⟩
theorem C2.trans(h:C2 T M Q Q')(k:C2 T M Q' Q2):C2 T M Q Q2:=⟨k.os.trans h.os,k.tape.trans h.tape,k.output.trans h.output,aH h.size k.size,fun b h1 h2 h3=>(k.block b (zz007 h1 h.size) h2 h3).trans (h.block b h1 h2 h3)⟩
theorem C2.gr(g:Gr Q Q'):C2 T M Q Q':=⟨g.below.os,g.below.tape,g.below.output,g.size,fun b h1 _ _=>g.block h1⟩
theorem C2.below(g:Bt Q Q'):C2 T M Q Q':=⟨g.os,g.tape,g.output,g.size,fun b h1 _ _=>g.block b h1⟩
theorem C2.ch(g:bK M Q Q'):C2 T M Q Q':=⟨g.os,g.tape,g.output,g.size,fun b h1 _ h3=>g.block b h1 h3⟩
theorem C2.set(h:C2 T M Q Q')(o:Nat)(v:Value):C2 T M Q (Q'.setCell (aq T o) v):=
 ⟨h.os,h.tape,h.output,by simpa[World.setCell]using h.size,fun b h1 h2 h3=>(bv Q' (aq T o) v b h2).trans (h.block b h1 h2 h3)⟩
theorem TM.lt(h:TM Q T K M cap s nv):T<Q.heap.size:=(az.1 h.tb).1
theorem TM.fz(h:TM Q T K M cap s nv)(j:Nat):Q.frozen? (aq T j)=false:=frozen_of_row _ _ _ _ _ h.tb
theorem TM.at(h:TM Q T K M cap s nv){j:Nat}{v:Value}(hv:(W9 K s.r nv)[j]?=some v):Q.cell? (aq T j)=some v:=by rw[cell_of_row Q T j _ _ _ h.tb];exact hv
theorem TM.gr(h:TM Q T K M cap s nv)(g:Gr Q Q'):TM Q' T K M cap s nv:=⟨(g.block h.lt).trans h.tb,h.cs.gr g,h.tk,h.tm,h.hW,h.hH,h.pa⟩
theorem TM.below(h:TM Q T K M cap s nv)(g:Bt Q Q'):TM Q' T K M cap s nv:=
 ⟨(g.block T h.lt).trans h.tb,⟨(g.block K h.cs.klt).trans h.cs.kb,h.cs.cv.keep (g.block M h.cs.cv.lt),h.cs.ne,h.cs.hc⟩,h.tk,h.tm,h.hW,h.hH,h.pa⟩
theorem TM.set(h:TM Q T K M cap s nv)(o:Nat)(v:Value)(r':Tc)(wQ:Value)(e:(W9 K s.r nv).setIfInBounds o v=W9 K r' wQ):TM (Q.setCell (aq T o) v) T K M cap {s with r:=r'} wQ:=
 ⟨by rw[<-e];exact heap_setCell_same Q T o _ _ v h.tb,
  ⟨(bv Q (aq T o) v K (fun e=>h.tk e.symm)).trans h.cs.kb,h.cs.cv.other (fun e=>h.tm e.symm) o v,h.cs.ne,h.cs.hc⟩,h.tk,h.tm,h.hW,h.hH,h.pa⟩
theorem TM.cells{c':Nat->Nat->Ce}(h:TM Q T K M cap s nv)(v:Cv 47 Q' M s.W s.H c')(g:bK M Q Q')(pa:PAll s.W s.H c'):TM Q' T K M cap {s with c:=c'} nv:=
 ⟨(g.block T h.lt h.tm).trans h.tb,⟨(g.block K h.cs.klt h.cs.ne).trans h.cs.kb,v,h.cs.ne,h.cs.hc⟩,h.tk,h.tm,h.hW,h.hH,pa⟩
end
def clr(r:Tc):Tc:={r with lx:=0,ly:=0,lt:=⟨#[]⟩,lw:=0,lm:=0}
section
variable{T K M cap:Nat} {s:Tm} {nv:Value}
theorem kt(w:World)(h:TM w T K M cap s nv):Calls Tryz.prog 31 #[.pointer (some (aq T 0))] w fun e w'=>e=Rw (.tuple #[])/\TM w' T K M cap {s with r:=clr s.r} nv/\C2 T M w w':=by have c6:w.cell? (aq T 6)=some (.int .i64 s.r.lx):=h.at rfl;have c7:w.cell? (aq T 7)=some (.int .i64 s.r.ly):=h.at rfl;have c8:w.cell? (aq T 8)=some (.string s.r.lt):=h.at rfl;have c9:w.cell? (aq T 9)=some (.int .i64 s.r.lw):=h.at rfl;have c10:w.cell? (aq T 10)=some (.int .i64 s.r.lm):=h.at rfl;have fz:=h.fz;have HM:Hid (TM w T K M cap s nv):=h;clear h;go_enter Tryz.func31,Tryz.ntmps31;go_wp2;go_end0;refine⟨rfl,?_,((((((C2.refl T M w).set _ _).set _ _).set _ _).set _ _).set _ _)⟩;have h1:=HM.out.set 6 (.int .i64 0) {s.r with lx:=0} nv rfl;have h2:=h1.set 7 (.int .i64 0) {s.r with lx:=0,ly:=0} nv rfl;have h3:=h2.set 8 (.string ⟨#[]⟩) {s.r with lx:=0,ly:=0,lt:=⟨#[]⟩} nv rfl;have h4:=h3.set 9 (.int .i64 0) {s.r with lx:=0,ly:=0,lt:=⟨#[]⟩,lw:=0} nv rfl;exact h4.set 10 (.int .i64 0) (clr s.r) nv rfl
theorem qR(w:World)(h:TM w T K M cap s nv):Calls Tryz.prog 88 #[.pointer (some (aq T 0))] w fun e w'=>e=Rw (.tuple #[.int .i64 s.W,.int .i64 s.H])/\Gr w w':=by have c0:w.cell? (aq T 0)=some (.pointer (some (aq K 0))):=h.at rfl;have SZ:Hid (Calls Tryz.prog 145 #[.pointer (some (aq K 0))] w fun e w'=>e=Rw (.tuple #[.int .i64 s.W,.int .i64 s.H])/\Gr w w'):=Qu w h.cs;clear h;go_enter Tryz.func88,Tryz.ntmps88;go_wp2_with fail;refine SZ.out.mono ?_;rintro e w1 ⟨rfl,g1⟩;go_wp2;refine bodyPost_ret (v:=.tuple #[.int .i64 s.W,.int .i64 s.H]) (by simp[results,Tryz.results88,go_sem]) rfl ?_;exact⟨rfl,g1⟩
theorem vC(w:World)(h:TM w T K M cap s nv):Calls Tryz.prog 140 #[.pointer (some (aq T 0))] w fun e w'=>e=Rw (rv 0 0 s.W s.H)/\Gr w w':=by
 have SZ:Hid (∀w',Gr w w'->Calls Tryz.prog 88 #[.pointer (some (aq T 0))] w' fun e w2=>e=Rw (.tuple #[.int .i64 s.W,.int .i64 s.H])/\Gr w' w2):=fun w' g=>qR w' (h.gr g);clear h;go_enter Tryz.func140,Tryz.ntmps140;go_wp2_with fail;obtain⟨S,hS⟩:∃z,w.heap.size=z:=⟨_,rfl⟩;obtain⟨W0,bc⟩:∃z,w.alloc (.cells #[.int .i64 0,.int .i64 0,.int .i64 0,.int .i64 0] 100)=z:=⟨_,rfl⟩;have G0:Hid (Gr w W0):=by rw[<-bc];exact(Gr.refl w).alloc _
 have R0:Hid (R4 100 W0 S 0 0 0 0):=by rw[<-bc,<-hS];exact R4.new w 0 0 0 0 _
 rw[bc,hS];have HS:Hid (w.heap.size=S):=hS;clear bc hS;refine(SZ.out _ G0.out).mono ?_;rintro e w1 ⟨rfl,g1⟩;have R1:Hid (R4 100 w1 S 0 0 0 0):=R0.out.gr g1;have HG:Hid (Gr w w1):=G0.out.trans g1;have c0:=R1.out.c0;have c1:=R1.out.c1;have c2:=R1.out.c2;have c3:=R1.out.c3;have fz:=R1.out.fz;clear g1;go_wp2;refine bodyPost_ret (results_cell_row rfl _ _ S _ _ _ _ rfl (R1.out.set 0 0 s.W s.H) Tryz.underlying100 rfl (by kernel_rfl)) rfl ?_;exact⟨rfl,(((HG.out.set (by rw[HS.out];exact ae _) _).set (by rw[HS.out];exact ae _) _).set (by rw[HS.out];exact ae _) _).set (by rw[HS.out];exact ae _) _⟩
def sB(s:Tm):Tm:={s with c:=iY s.W s.H s.c s.r.lx s.r.ly s.r.lt s.r.lw s.r.f s.r.g s.r.b 0 0 s.W s.H}
theorem rG(w:World)(h:TM w T K M cap s nv):Calls Tryz.prog 89 #[.pointer (some (aq T 0))] w fun e w'=>e=Rw (.tuple #[])/\TM w' T K M cap (sB s) nv/\C2 T M w w':=by have hp:PAll s.W s.H (sB s).c:=h.pa.putX h.hW h.hH _ _ _ _ _ _ _ _ _ _ _;have WR:Hid (∀w',Gr w w'->Calls Tryz.prog 140 #[.pointer (some (aq T 0))] w' fun e w2=>e=Rw (rv 0 0 s.W s.H)/\Gr w' w2):=fun w' g=>vC w' (h.gr g);have PU:Hid (∀w',Gr w w'->Calls Tryz.prog 146 #[.pointer (some (aq K 0)),.int .i64 s.r.lx,.int .i64 s.r.ly,.agg #[.string s.r.lt,.int .i64 s.r.lw],sv s.r.f s.r.g s.r.b,rv 0 0 s.W s.H] w' fun e w2=>e=Rw (.tuple #[])/\Hid (TM w2 T K M cap (sB s) nv/\C2 T M w w2)):=fun w' g=>(Iv w' (h.gr g).cs h.hW h.hH h.pa s.r.lx s.r.ly s.r.lt s.r.lw s.r.f s.r.g s.r.b 0 0 s.W s.H).mono fun e w2 q=>⟨q.1,(h.gr g).cells q.2.1 q.2.2 hp,(C2.gr g).trans (C2.ch q.2.2)⟩;have CE:Hid (∀w',Gr w w'->∀j v,(W9 K s.r nv)[j]?=some v->w'.cell? (aq T j)=some v):=fun w' g j v hv=>(h.gr g).at hv;have c0:w.cell? (aq T 0)=some (.pointer (some (aq K 0))):=h.at rfl;have c3:w.cell? (aq T 3)=some (.int .i64 s.r.f):=h.at rfl;have c4:w.cell? (aq T 4)=some (.int .i64 s.r.g):=h.at rfl;have c5:w.cell? (aq T 5)=some (.int .i64 s.r.b):=h.at rfl;have c6:w.cell? (aq T 6)=some (.int .i64 s.r.lx):=h.at rfl;have c7:w.cell? (aq T 7)=some (.int .i64 s.r.ly):=h.at rfl;have c8:w.cell? (aq T 8)=some (.string s.r.lt):=h.at rfl;have c9:w.cell? (aq T 9)=some (.int .i64 s.r.lw):=h.at rfl;clear h hp;go_enter Tryz.func89,Tryz.ntmps89;go_wp2_with fail;go_region_held(fun W=>W.cell? (aq T 0)=some (.pointer (some (aq K 0)))/\W.cell? (aq T 3)=some (.int .i64 s.r.f)/\W.cell? (aq T 4)=some (.int .i64 s.r.g)/\W.cell? (aq T 5)=some (.int .i64 s.r.b)/\W.cell? (aq T 6)=some (.int .i64 s.r.lx)/\W.cell? (aq T 7)=some (.int .i64 s.r.ly)/\W.cell? (aq T 8)=some (.string s.r.lt)/\W.cell? (aq T 9)=some (.int .i64 s.r.lw)) (go_keep) (first|(go_at_call 140;refine ai (WR.out _ (by first|exact Gr.refl _|exact(Gr.refl _).drew)) ?_;rintro e1 w1 ⟨rfl,g1⟩;have G1:Hid (Gr w w1):=(by first|exact g1|exact((Gr.refl w).drew).trans g1);clear g1;have o0:w1.cell? (aq T 0)=some (.pointer (some (aq K 0))):=CE.out w1 G1.out 0 _ rfl;have o3:w1.cell? (aq T 3)=some (.int .i64 s.r.f):=CE.out w1 G1.out 3 _ rfl;have o4:w1.cell? (aq T 4)=some (.int .i64 s.r.g):=CE.out w1 G1.out 4 _ rfl;have o5:w1.cell? (aq T 5)=some (.int .i64 s.r.b):=CE.out w1 G1.out 5 _ rfl;have o6:w1.cell? (aq T 6)=some (.int .i64 s.r.lx):=CE.out w1 G1.out 6 _ rfl;have o7:w1.cell? (aq T 7)=some (.int .i64 s.r.ly):=CE.out w1 G1.out 7 _ rfl;have o8:w1.cell? (aq T 8)=some (.string s.r.lt):=CE.out w1 G1.out 8 _ rfl;have o9:w1.cell? (aq T 9)=some (.int .i64 s.r.lw):=CE.out w1 G1.out 9 _ rfl)|(go_at_call 146;refine ai (PU.out _ G1.out) ?_;rintro e2 w2 ⟨rfl,H2⟩;have u0:w2.cell? (aq T 0)=some (.pointer (some (aq K 0))):=H2.out.1.at rfl;have u3:w2.cell? (aq T 3)=some (.int .i64 s.r.f):=H2.out.1.at rfl;have u4:w2.cell? (aq T 4)=some (.int .i64 s.r.g):=H2.out.1.at rfl;have u5:w2.cell? (aq T 5)=some (.int .i64 s.r.b):=H2.out.1.at rfl;have u6:w2.cell? (aq T 6)=some (.int .i64 s.r.lx):=H2.out.1.at rfl;have u7:w2.cell? (aq T 7)=some (.int .i64 s.r.ly):=H2.out.1.at rfl;have u8:w2.cell? (aq T 8)=some (.string s.r.lt):=H2.out.1.at rfl;have u9:w2.cell? (aq T 9)=some (.int .i64 s.r.lw):=H2.out.1.at rfl));all_goals go_wp2;go_end0;exact⟨rfl,H2.out.1,H2.out.2⟩
end
def c_(l:Nat->Int)(a:Int):Array Value:=#[.int .i64 (l 0),.int .i64 (l 1),.int .i64 (l 2),.int .i64 (l 3),.int .i64 (l 4),.int .i64 (l 5),.int .i64 (l 6),.int .i64 (l 7),.int .i64 (l 8),.int .i64 (l 9),.int .i64 (l 10),.int .i64 (l 11),.int .i64 (l 12),.int .i64 (l 13),.int .i64 (l 14),.int .i64 (l 15),.int .i64 (l 16),.int .i64 a]
def oX(l:Nat->Int)(a:Int):Value:=.agg #[.int .i64 (l 0),.int .i64 (l 1),.int .i64 (l 2),.int .i64 (l 3),.int .i64 (l 4),.int .i64 (l 5),.int .i64 (l 6),.int .i64 (l 7),.int .i64 (l 8),.int .i64 (l 9),.int .i64 (l 10),.int .i64 (l 11),.int .i64 (l 12),.int .i64 (l 13),.int .i64 (l 14),.int .i64 (l 15),.int .i64 (l 16),.int .i64 a]
def dG(Q:World)(b:Nat)(l:Nat->Int)(a:Int):Prop:=Q.heap[b]?=some (.cells (c_ l a) 132 (0,0))
section
variable{Q Q':World} {b k:Nat} {l:Nat->Int} {a:Int}
theorem dG.lt(h:dG Q b l a):b<Q.heap.size:=(az.1 h).1
theorem dG.fz(h:dG Q b l a)(j:Nat):Q.frozen? (aq b j)=false:=frozen_of_row _ _ _ _ _ h
theorem dG.at(h:dG Q b l a){j:Nat}{v:Value}(hv:(c_ l a)[j]?=some v):Q.cell? (aq b j)=some v:=by rw[cell_of_row Q b j _ _ _ h];exact hv
theorem dG.gr(h:dG Q b l a)(g:Gr Q Q'):dG Q' b l a:=(g.block h.lt).trans h
theorem dG.c2{X M:Nat}(h:dG Q b l a)(g:C2 X M Q Q')(h1:b≠X)(h2:b≠M):dG Q' b l a:=(g.block b h.lt h1 h2).trans h
def fZ(l:Nat->Int)(k:Nat)(v:Int):Nat->Int:=fun j=>if j=k then v else l j
theorem C5(l:Nat->Int)(a:Int)(hk:k<17):(c_ l a)[k]?=some (.int .i64 (l k)):=by
 have:k=0\/k=1\/k=2\/k=3\/k=4\/k=5\/k=6\/k=7\/k=8\/k=9\/k=10\/k=11\/k=12\/k=13\/k=14\/k=15\/k=16:=by omega
 rcases this with rfl|rfl|rfl|rfl|rfl|rfl|rfl|rfl|rfl|rfl|rfl|rfl|rfl|rfl|rfl|rfl|rfl<;>rfl
theorem PF(l:Nat->Int)(a v:Int)(hk:k<17):(c_ l a).setIfInBounds k (.int .i64 v)=c_ (fZ l k v) a:=by
 have:k=0\/k=1\/k=2\/k=3\/k=4\/k=5\/k=6\/k=7\/k=8\/k=9\/k=10\/k=11\/k=12\/k=13\/k=14\/k=15\/k=16:=by omega
 rcases this with rfl|rfl|rfl|rfl|rfl|rfl|rfl|rfl|rfl|rfl|rfl|rfl|rfl|rfl|rfl|rfl|rfl<;>rfl
theorem dG.set(h:dG Q b l a)(hk:k<17)(v:Int):dG (Q.setCell (aq b k) (.int .i64 v)) b (fZ l k v) a:=by show _=_;rw[<-PF l a v hk];exact heap_setCell_same Q b k _ _ _ h
theorem dG.setA(h:dG Q b l a)(v:Int):dG (Q.setCell (aq b 17) (.int .i64 v)) b l v:=heap_setCell_same Q b 17 _ _ _ h
theorem dG.put(h:dG Q b l a)(l':Nat->Int)(a':Int):dG ((((((((((((((((((Q.setCell (aq b 0) (.int .i64 (l' 0))).setCell (aq b 1) (.int .i64 (l' 1))).setCell (aq b 2) (.int .i64 (l' 2))).setCell (aq b 3) (.int .i64 (l' 3))).setCell (aq b 4) (.int .i64 (l' 4))).setCell (aq b 5) (.int .i64 (l' 5))).setCell (aq b 6) (.int .i64 (l' 6))).setCell (aq b 7) (.int .i64 (l' 7))).setCell (aq b 8) (.int .i64 (l' 8))).setCell (aq b 9) (.int .i64 (l' 9))).setCell (aq b 10) (.int .i64 (l' 10))).setCell (aq b 11) (.int .i64 (l' 11))).setCell (aq b 12) (.int .i64 (l' 12))).setCell (aq b 13) (.int .i64 (l' 13))).setCell (aq b 14) (.int .i64 (l' 14))).setCell (aq b 15) (.int .i64 (l' 15))).setCell (aq b 16) (.int .i64 (l' 16))).setCell (aq b 17) (.int .i64 a')) b l' a':=by have h0:=dG.set (k:=0) h (by decide) (l' 0);have h1:=dG.set (k:=1) h0 (by decide) (l' 1);have h2:=dG.set (k:=2) h1 (by decide) (l' 2);have h3:=dG.set (k:=3) h2 (by decide) (l' 3);have h4:=dG.set (k:=4) h3 (by decide) (l' 4);have h5:=dG.set (k:=5) h4 (by decide) (l' 5);have h6:=dG.set (k:=6) h5 (by decide) (l' 6);have h7:=dG.set (k:=7) h6 (by decide) (l' 7);have h8:=dG.set (k:=8) h7 (by decide) (l' 8);have h9:=dG.set (k:=9) h8 (by decide) (l' 9);have fM:=dG.set (k:=10) h9 (by decide) (l' 10);have h11:=dG.set (k:=11) fM (by decide) (l' 11);have ZX:=dG.set (k:=12) h11 (by decide) (l' 12);have h13:=dG.set (k:=13) ZX (by decide) (l' 13);have h14:=dG.set (k:=14) h13 (by decide) (l' 14);have h15:=dG.set (k:=15) h14 (by decide) (l' 15);have h16:=dG.set (k:=16) h15 (by decide) (l' 16);have h17:=dG.setA h16 a';have e:c_ (fZ (fZ (fZ (fZ (fZ (fZ (fZ (fZ (fZ (fZ (fZ (fZ (fZ (fZ (fZ (fZ (fZ l 0 (l' 0)) 1 (l' 1)) 2 (l' 2)) 3 (l' 3)) 4 (l' 4)) 5 (l' 5)) 6 (l' 6)) 7 (l' 7)) 8 (l' 8)) 9 (l' 9)) 10 (l' 10)) 11 (l' 11)) 12 (l' 12)) 13 (l' 13)) 14 (l' 14)) 15 (l' 15)) 16 (l' 16)) a'=c_ l' a':=rfl;show _=_;rw[<-e];exact h17
theorem dG.putAll(h:dG Q b l a)(l':Nat->Int)(a':Int):dG (Q.setCells b 0 (c_ l' a').toList) b l' a':=h.put l' a'
theorem dG.range(h:dG Q b l a):Q.rangeAt b 0 (c_ l a).toList:=fun j v hv=>by rw[cB];exact h.at (by rw[<-Array.getElem?_toList];exact hv)
theorem dG.thr(h:dG Q b l a):Q.there b 0 18:=fun j hj=>by rw[cB];refine⟨?_,h.fz j⟩;have hs:(c_ l a).size=18:=rfl;rw[h.at (j:=j) (v:=(c_ l a)[j]'(by omega)) (D7 _)];rfl
theorem Gr.set18{Q Q':World}{k:Nat}(g:Gr Q Q')(hk:Q.heap.size<=k)(l:Nat->Int)(a:Int):Gr Q (Q'.setCells k 0 (c_ l a).toList):=by show Gr Q ((((((((((((((((((Q'.setCell (aq k 0) (.int .i64 (l 0))).setCell (aq k 1) (.int .i64 (l 1))).setCell (aq k 2) (.int .i64 (l 2))).setCell (aq k 3) (.int .i64 (l 3))).setCell (aq k 4) (.int .i64 (l 4))).setCell (aq k 5) (.int .i64 (l 5))).setCell (aq k 6) (.int .i64 (l 6))).setCell (aq k 7) (.int .i64 (l 7))).setCell (aq k 8) (.int .i64 (l 8))).setCell (aq k 9) (.int .i64 (l 9))).setCell (aq k 10) (.int .i64 (l 10))).setCell (aq k 11) (.int .i64 (l 11))).setCell (aq k 12) (.int .i64 (l 12))).setCell (aq k 13) (.int .i64 (l 13))).setCell (aq k 14) (.int .i64 (l 14))).setCell (aq k 15) (.int .i64 (l 15))).setCell (aq k 16) (.int .i64 (l 16))).setCell (aq k 17) (.int .i64 a));exact((((((((((((((((((g.set hk _).set hk _).set hk _).set hk _).set hk _).set hk _).set hk _).set hk _).set hk _).set hk _).set hk _).set hk _).set hk _).set hk _).set hk _).set hk _).set hk _).set hk _)
theorem dG.new(Q:World)(l:Nat->Int)(a:Int):dG (Q.alloc (.cells (c_ l a) 132)) Q.heap.size l a:=heap_alloc_new _ _
end
theorem zL(l:Nat->Int)(a:Int):(c_ l a).all (·.oneCell')=true:=by simp[c_,Value.oneCell']
theorem zK:∃d,Tryz.prog.underlying 132=some d/\d.isRow=true:=⟨_,Tryz.underlying132,rfl⟩
theorem gL:(Tryz.prog.info? 132).map (·.size)=some 18:=by kernel_rfl
theorem sL(l:Nat->Int)(a:Int)(ha:0<=a/\a<=16)(w:World):Calls Tryz.prog 82 #[oX l a] w fun e w'=>e=Rw (oX l (min (a+1) 16))/\Gr w w':=by
 unfold oX;obtain⟨a2,ha2⟩:∃z,min (a+1) 16=z:=⟨_,rfl⟩;obtain⟨d,hu,hd⟩:=zK;have hi:=gL;have hb:a+1<=16/\a2=a+1\/16<a+1/\a2=16:=by omega
 rw[ha2];clear ha2;go_enter Tryz.func82,Tryz.ntmps82;go_upto_region 1 with fail;obtain⟨S,hS⟩:∃z,w.heap.size=z:=⟨_,rfl⟩;obtain⟨W0,bc⟩:∃z,(w.alloc (.cells #[.int .i64 (l 0),.int .i64 (l 1),.int .i64 (l 2),.int .i64 (l 3),.int .i64 (l 4),.int .i64 (l 5),.int .i64 (l 6),.int .i64 (l 7),.int .i64 (l 8),.int .i64 (l 9),.int .i64 (l 10),.int .i64 (l 11),.int .i64 (l 12),.int .i64 (l 13),.int .i64 (l 14),.int .i64 (l 15),.int .i64 (l 16),.int .i64 a] 132)).alloc (.cells #[.int .i64 0,.int .i64 0,.int .i64 0,.int .i64 0,.int .i64 0,.int .i64 0,.int .i64 0,.int .i64 0,.int .i64 0,.int .i64 0,.int .i64 0,.int .i64 0,.int .i64 0,.int .i64 0,.int .i64 0,.int .i64 0,.int .i64 0,.int .i64 0] 132)=z:=⟨_,rfl⟩;have G0:Hid (Gr w W0):=by rw[<-bc];exact((Gr.refl w).alloc _).alloc _
 have A0:Hid (dG W0 S l a):=by rw[<-bc,<-hS];exact(dG.new w l a).gr ((Gr.refl _).alloc _)
 have Z0:Hid (dG W0 (S+1) (fun _=>0) 0):=by have:=dG.new (w.alloc (.cells #[.int .i64 (l 0),.int .i64 (l 1),.int .i64 (l 2),.int .i64 (l 3),.int .i64 (l 4),.int .i64 (l 5),.int .i64 (l 6),.int .i64 (l 7),.int .i64 (l 8),.int .i64 (l 9),.int .i64 (l 10),.int .i64 (l 11),.int .i64 (l 12),.int .i64 (l 13),.int .i64 (l 14),.int .i64 (l 15),.int .i64 (l 16),.int .i64 a] 132)) (fun _=>0) 0;rw[aA,hS]at this;rw[<-bc];exact this
 rw[bc,hS];have HS:Hid (w.heap.size=S):=hS;clear bc hS;have ZT:W0.cell? (aq S 17)=some (.int .i64 a):=A0.out.at rfl;have fz:=A0.out.fz;rcases hb with⟨hb,rfl⟩|⟨hb,rfl⟩
 ·go_upto_region 2 with fail;obtain⟨W1,bZ⟩:∃z,W0.setCell (aq S 17) (.int .i64 (a+1))=z:=⟨_,rfl⟩;have A1:Hid (dG W1 S l (a+1)):=by rw[<-bZ];exact A0.out.setA _
  have Z1:Hid (dG W1 (S+1) (fun _=>0) 0):=by rw[<-bZ];exact(bv W0 (aq S 17) _ (S+1) (by show S+1≠S;omega)).trans Z0.out
  have G1:Hid (Gr w W1):=by rw[<-bZ];exact G0.out.set (by rw[HS.out];exact ae _) _
  rw[bZ];clear bZ ZT fz;have ht:W1.there (S+1) 0 (c_ l (a+1)).size:=Z1.out.thr;have qi:(Tryz.prog.info? 132).map (·.size)=some (c_ l (a+1)).size:=gL;have nR:(Tryz.prog.info? 132).map (·.size)=some (c_ l (a+1)).toList.length:=gL;have h1:(c_ l (a+1)).all (·.oneCell')=true:=zL _ _;go_wp2_with(first|(refine wpList_load_mid rfl 132 _ rfl S 0 rfl (c_ l (a+1)).toList d A1.out.range hu hd nR ?_)|(refine wpList_store_mid rfl 132 _ _ rfl (S+1) 0 (c_ l (a+1)) rfl rfl ht qi h1 ?_));refine bodyPost_ret (results_cell_row rfl _ _ (S+1) _ _ _ _ rfl (Z1.out.putAll l _) Tryz.underlying132 rfl (by kernel_rfl)) rfl ?_;exact⟨rfl,G1.out.set18 (by rw[HS.out];omega) l _⟩
 ·go_upto_region 2 with fail;obtain⟨W1,bZ⟩:∃z,W0.setCell (aq S 17) (.int .i64 (16))=z:=⟨_,rfl⟩;have A1:Hid (dG W1 S l (16)):=by rw[<-bZ];exact A0.out.setA _
  have Z1:Hid (dG W1 (S+1) (fun _=>0) 0):=by rw[<-bZ];exact(bv W0 (aq S 17) _ (S+1) (by show S+1≠S;omega)).trans Z0.out
  have G1:Hid (Gr w W1):=by rw[<-bZ];exact G0.out.set (by rw[HS.out];exact ae _) _
  rw[bZ];clear bZ ZT fz;have ht:W1.there (S+1) 0 (c_ l (16)).size:=Z1.out.thr;have qi:(Tryz.prog.info? 132).map (·.size)=some (c_ l (16)).size:=gL;have nR:(Tryz.prog.info? 132).map (·.size)=some (c_ l (16)).toList.length:=gL;have h1:(c_ l (16)).all (·.oneCell')=true:=zL _ _;go_wp2_with(first|(refine wpList_load_mid rfl 132 _ rfl S 0 rfl (c_ l (16)).toList d A1.out.range hu hd nR ?_)|(refine wpList_store_mid rfl 132 _ _ rfl (S+1) 0 (c_ l (16)) rfl rfl ht qi h1 ?_));refine bodyPost_ret (results_cell_row rfl _ _ (S+1) _ _ _ _ rfl (Z1.out.putAll l _) Tryz.underlying132 rfl (by kernel_rfl)) rfl ?_;exact⟨rfl,G1.out.set18 (by rw[HS.out];omega) l _⟩
theorem xc(l:Nat->Int)(k:Nat)(d:Int)(hk:k<17)(hl:0<=l k/\l k<=999999)(hd:0<=d/\d<=9)(w:World):Calls Tryz.prog 81 #[oX l (k:Int),.int .i64 d] w fun e w'=>e=Rw (oX (fZ l k (min (l k*10+d) 999999)) (k:Int))/\Gr w w':=by
 unfold oX;obtain⟨d0,hu,Hp⟩:=zK;obtain⟨v,hv⟩:∃z,l k=z:=⟨_,rfl⟩;obtain⟨v2,my⟩:∃z,min (l k*10+d) 999999=z:=⟨_,rfl⟩;have hb:v*10+d<=999999/\v2=v*10+d\/999999<v*10+d/\v2=999999:=by rw[<-my,hv];omega
 rw[my];obtain⟨l2,uu⟩:∃z,fZ l k v2=z:=⟨_,rfl⟩;rw[uu];rw[hv]at hl;have HV:Hid (l k=v):=hv;have HL2:Hid (fZ l k v2=l2):=uu;clear hv my uu;have KB:(k:Int)<17:=by omega
 go_enter Tryz.func81,Tryz.ntmps81;go_upto_region 1 with fail;obtain⟨S,hS⟩:∃z,w.heap.size=z:=⟨_,rfl⟩;obtain⟨W0,bc⟩:∃z,(w.alloc (.cells #[.int .i64 (l 0),.int .i64 (l 1),.int .i64 (l 2),.int .i64 (l 3),.int .i64 (l 4),.int .i64 (l 5),.int .i64 (l 6),.int .i64 (l 7),.int .i64 (l 8),.int .i64 (l 9),.int .i64 (l 10),.int .i64 (l 11),.int .i64 (l 12),.int .i64 (l 13),.int .i64 (l 14),.int .i64 (l 15),.int .i64 (l 16),.int .i64 (k:Int)] 132)).alloc (.cells #[.int .i64 0,.int .i64 0,.int .i64 0,.int .i64 0,.int .i64 0,.int .i64 0,.int .i64 0,.int .i64 0,.int .i64 0,.int .i64 0,.int .i64 0,.int .i64 0,.int .i64 0,.int .i64 0,.int .i64 0,.int .i64 0,.int .i64 0,.int .i64 0] 132)=z:=⟨_,rfl⟩;have G0:Hid (Gr w W0):=by rw[<-bc];exact((Gr.refl w).alloc _).alloc _
 have A0:Hid (dG W0 S l (k:Int)):=by rw[<-bc,<-hS];exact(dG.new w l (k:Int)).gr ((Gr.refl _).alloc _)
 have Z0:Hid (dG W0 (S+1) (fun _=>0) 0):=by have:=dG.new (w.alloc (.cells #[.int .i64 (l 0),.int .i64 (l 1),.int .i64 (l 2),.int .i64 (l 3),.int .i64 (l 4),.int .i64 (l 5),.int .i64 (l 6),.int .i64 (l 7),.int .i64 (l 8),.int .i64 (l 9),.int .i64 (l 10),.int .i64 (l 11),.int .i64 (l 12),.int .i64 (l 13),.int .i64 (l 14),.int .i64 (l 15),.int .i64 (l 16),.int .i64 (k:Int)] 132)) (fun _=>0) 0;rw[aA,hS]at this;rw[<-bc];exact this
 rw[bc,hS];have HS:Hid (w.heap.size=S):=hS;clear bc hS;have ZT:W0.cell? (aq S 17)=some (.int .i64 (k:Int)):=A0.out.at rfl;have ck:W0.cell? (aq S k)=some (.int .i64 v):=by rw[<-HV.out];exact A0.out.at (C5 l _ hk)
 have fz:=A0.out.fz;rcases hb with⟨hb,rfl⟩|⟨hb,rfl⟩
 ·go_region;go_upto_region 2 with fail;obtain⟨W1,bZ⟩:∃z,(W0.setCell (aq S k) (.int .i64 (v*10+d))).drew=z:=⟨_,rfl⟩;have A1:Hid (dG W1 S l2 (k:Int)):=by rw[<-bZ,<-HL2.out];exact(A0.out.set hk _).gr (Gr.refl _).drew
  have Z1:Hid (dG W1 (S+1) (fun _=>0) 0):=by rw[<-bZ];exact dG.gr ((bv W0 (aq S k) _ (S+1) (by show S+1≠S;omega)).trans Z0.out) (Gr.refl _).drew
  have G1:Hid (Gr w W1):=by rw[<-bZ];exact(G0.out.set (by rw[HS.out];exact ae _) _).drew
  rw[bZ];clear bZ ZT ck fz;have ht:W1.there (S+1) 0 (c_ l2 (k:Int)).size:=Z1.out.thr;have qi:(Tryz.prog.info? 132).map (·.size)=some (c_ l2 (k:Int)).size:=gL;have nR:(Tryz.prog.info? 132).map (·.size)=some (c_ l2 (k:Int)).toList.length:=gL;have h1:(c_ l2 (k:Int)).all (·.oneCell')=true:=zL _ _;go_wp2_with(first|(refine wpList_load_mid rfl 132 _ rfl S 0 rfl (c_ l2 (k:Int)).toList d0 A1.out.range hu Hp nR ?_)|(refine wpList_store_mid rfl 132 _ _ rfl (S+1) 0 (c_ l2 (k:Int)) rfl rfl ht qi h1 ?_));refine bodyPost_ret (results_cell_row rfl _ _ (S+1) _ _ _ _ rfl (Z1.out.putAll l2 _) Tryz.underlying132 rfl (by kernel_rfl)) rfl ?_;exact⟨rfl,G1.out.set18 (by rw[HS.out];omega) l2 _⟩
 ·go_region;go_upto_region 2 with fail;obtain⟨W1,bZ⟩:∃z,(W0.setCell (aq S k) (.int .i64 (999999))).drew=z:=⟨_,rfl⟩;have A1:Hid (dG W1 S l2 (k:Int)):=by rw[<-bZ,<-HL2.out];exact(A0.out.set hk _).gr (Gr.refl _).drew
  have Z1:Hid (dG W1 (S+1) (fun _=>0) 0):=by rw[<-bZ];exact dG.gr ((bv W0 (aq S k) _ (S+1) (by show S+1≠S;omega)).trans Z0.out) (Gr.refl _).drew
  have G1:Hid (Gr w W1):=by rw[<-bZ];exact(G0.out.set (by rw[HS.out];exact ae _) _).drew
  rw[bZ];clear bZ ZT ck fz;have ht:W1.there (S+1) 0 (c_ l2 (k:Int)).size:=Z1.out.thr;have qi:(Tryz.prog.info? 132).map (·.size)=some (c_ l2 (k:Int)).size:=gL;have nR:(Tryz.prog.info? 132).map (·.size)=some (c_ l2 (k:Int)).toList.length:=gL;have h1:(c_ l2 (k:Int)).all (·.oneCell')=true:=zL _ _;go_wp2_with(first|(refine wpList_load_mid rfl 132 _ rfl S 0 rfl (c_ l2 (k:Int)).toList d0 A1.out.range hu Hp nR ?_)|(refine wpList_store_mid rfl 132 _ _ rfl (S+1) 0 (c_ l2 (k:Int)) rfl rfl ht qi h1 ?_));refine bodyPost_ret (results_cell_row rfl _ _ (S+1) _ _ _ _ rfl (Z1.out.putAll l2 _) Tryz.underlying132 rfl (by kernel_rfl)) rfl ?_;exact⟨rfl,G1.out.set18 (by rw[HS.out];omega) l2 _⟩
theorem rF(n wZ:Int)(hn:0<=n/\n<=999999)(hs:1<=wZ/\wZ<=400)(w:World):Calls Tryz.prog 139 #[.int .i64 n,.int .i64 wZ] w fun e w'=>e=Rw (.int .i64 (min (max n 1) wZ-1))/\w'=w:=by
 go_enter Tryz.func139,Tryz.ntmps139;by_cases h1:n<1
 ·have e1:max n 1=1:=by omega
  rw[e1];by_cases h2:1<=wZ
  ·have e2:min 1 wZ=1:=by omega
   rw[e2];go_wp2;go_ret;exact⟨rfl,rfl⟩
  ·omega
 ·have e1:max n 1=n:=by omega
  rw[e1];by_cases h2:n<=wZ
  ·have e2:min n wZ=n:=by omega
   rw[e2];go_wp2;go_ret;exact⟨rfl,rfl⟩
  ·have e2:min n wZ=wZ:=by omega
   rw[e2];go_wp2;go_ret;exact⟨rfl,rfl⟩
