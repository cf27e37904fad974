import Derived.Test.YtehgehanbnkdiaaGreatDoorQ45
import Derived.Test.YtehgehanbnkdiaaGreatDoorQ42
import Derived.Shelf.SlIterI.Sorted
set_option linter.all false
set_option maxRecDepth 100000
set_option maxHeartbeats 16000000
namespace Go.Proofs.YtehgehanbnkdiaaGreatDoor
end Go.Proofs.YtehgehanbnkdiaaGreatDoor
namespace Go.Proofs
open Go.Shelf
shelf_lay_g SlLaysZI.n7 Ggz 7 at Tryz 65 as Tryz.keysLaid
shelf_lay_g SlLaysZI.n6 Ggz 6 at Tryz 64 as Tryz.sortedLaid
end Go.Proofs
namespace Go.Proofs.YtehgehanbnkdiaaGreatDoor
section
open Go.RowKit Go.Sort Go.Maps Go.Proofs.Tryz
def iX(W:AT)(S:Nat)(w h:Int)(t:BY)(r:Nat)(sh:Fd):Prop:=W.heap[S]?=some (.cells #[Iq w,Iq h,.string t,.map (some r),sh] 77 (0,0))
def iX.lt{W:AT}{S r:Nat}{w h:Int}{t:BY}{sh:Fd}(q:iX W S w h t r sh):S<W.heap.size:=(aj.1 q).1
def iX.cell{W:AT}{S r:Nat}{w h:Int}{t:BY}{sh:Fd}(q:iX W S w h t r sh):W.cell? (aq S 0)=some (Iq w)/\W.cell? (aq S 1)=some (Iq h)/\W.cell? (aq S 2)=some (.string t)/\W.cell? (aq S 3)=some (.map (some r))/\W.cell? (aq S 4)=some sh/\∀j,W.frozen? (aq S j)=false:=by unfold iX at q;refine⟨?_,?_,?_,?_,?_,λj=>frozen_of_row _ _ _ _ _ q⟩<;>simp[World.cell?,q]
def D_(a:Option Nat)(W:AT):Cw 65 #[.map a] W λe w'=>e=Rw (.func (.func 104) #[] #[Pq W.heap.size])/\w'=W.alloc (.cells #[.map a] 75):=
 (callsIn_wide (n:=5)).1 (AnyZI.keys_in Tryz.keysLaid Fence.wide 5 trivial rfl a W)
def Am(m:Nat):AnyZI.SortsIn prog Tryz.sortedLaid_ren Fence.wide m:=
 ⟨λc off a f W e b d=>callsIn_wide.2 (AnyM.slices_Sort_int Tryz.sortLaid c off a f W e b d),
  λp a W=>callsIn_wide.2 (AnyM.slices_Sort_int_none Tryz.sortLaid p a W)⟩
def xh(r d B:Nat)(D:DataW Unit)(W:AT)(j:B<W.heap.size)(k:W.cell? (aq B 0)=some (.map (some r)))(a:W.ownsMap prog 3 (plainElem prog 3) r d D)(m:d<=4000000000000):
 Cw 64 #[.func (.func 104) #[] #[Pq B]] W λe w'=>∃(v:Fd) (b:zzc),e=Rw v/\b.Perm (intKeys D)/\w'.ownsRow W.heap.size 3 1 v b.length ((b.mergeSort (λx y=>decide (x<=y))).map encZ)/\Bq W w':=by
 have l:=a.size_le;have c:SeqGives Fence.wide 2 prog 104 #[Pq B] encZ (λb=>b.Perm (intKeys D)) (Maps.size D) W:=
  AnyZI.keys_gives (ρ:=Tryz.keysLaid_ren) {Tryz.keysLaid with} Fence.wide _ trivial rfl dg B r d D W j k a;have cS:=AnyZI.sorted_in Tryz.sortedLaid Fence.wide 5 trivial trivial trivial trivial rfl dg (Am _) (enters_of func103 pt rfl) 104 #[Pq B] trivial (enters_of func104 pt rfl) _ _ (by unfold maxLen;omega) dg W c;change CallsIn _ _ prog 64 _ _ _ at cS;refine((callsIn_wide (n:=5)).1 cS).mono ?_;rintro e w' ⟨v,b,f,g,h,_,i⟩;exact⟨v,b,f,g,h,i⟩
def BP{b:Int->Int}{a off:zzb}(id:Int):∀k,(∀j,j<k->off j=b (a j))->((∀j,j<k->a j≠id)->b id=0)->gp id a off k=b id
 |0,_,h=>by rw[h (λj d=>dg)];rfl
 |k+1,c,f=>by
  unfold gp;by_cases e:a k=id;.rw[if_pos e,c k dg,e]
  .rw[if_neg e];refine BP id k (λj d=>c j dg) λh=>f λj d=>?_;by_cases q:j=k;.rw[q];exact e
   .exact h j dg
def Pc{D:DataW Unit}{d:Int->Int}(f:Qi D d){e:zzc}(g:e.Perm (intKeys D)){id:Int}(h:id∉e):d id=0:=by
 have hh:Maps.has D (.int .i64 id)=false:=by
  cases c:Maps.has D (.int .i64 id)with
  |false=>rfl
  |true=>
   exfalso;apply h;rw[g.mem_iff];cases D;case map i=>rw[Maps.has_eq,List.any_eq_true]at c;obtain⟨p,a,b⟩:=c;exact kJ.2 ⟨p,a,by rw[J0 b];rfl⟩
   all_goals cases c
 have:=f id;rw[Maps.atKey_of_not_has hh]at this;injection this with this;injection this with _ this;exact this.symm
def IJ{W:AT}{B n:Nat}{v:Fd}{a:zzc}(h:W.ownsRow B 3 1 v n (a.map encZ))(i:a.length=n):∃p c,v=.slice p n c/\(n=0\/∃g,p=some (aq g 0)/\g<W.heap.size/\∀j,j<n->W.cell? (aq g j)=some (Iq (a[j]?.getD 0))):=by
 rcases cm h with⟨rfl,b⟩|⟨g,d,rfl,_,e,_⟩;.exact⟨none,0,by rw[b],.inl b⟩
 .refine⟨_,_,rfl,.inr ⟨g,rfl,e,λj f=>?_⟩⟩;rw[h.cellAt j dg];simp[show j<a.length by omega]
def Xw(W W':AT)(mv:Int->Int)(e:Ending):Prop:=∃p k c eW off,e=Rw (.slice p k c)/\og W' p k eW off/\(∀a:Addr,p=some a->a.block<W'.heap.size)/\k<=4000000000000/\(∀id,gp id eW off k=mv id)/\Bq W W'
def iC(S r n:Nat)(w h:Int)(t:BY)(sh:Fd)(o:Int->Int)(U:AT)(hS:iX U S w h t r sh)(hM:Mp U r n o)(hn:n<=4000000000000):
 Cw 34 #[Pq S] U λe U'=>Xw U U' o e:=by
 obtain⟨i0,hi,zw,zx,zy⟩:=info_parts yA;obtain⟨D,N,I⟩:=hM;have hM:Mp U r n o:=⟨D,N,I⟩;obtain⟨_,_,_,c3,_,_⟩:=hS.cell;have zr:=hS.lt;obtain⟨M,l⟩:=af (U.alloc (.cells #[.map (some r)] 75));obtain⟨B,hB⟩:=af U.heap.size;have HK:Hid (Cw 65 #[.map (some r)] U λe w'=>e=Rw (.func (.func 104) #[] #[Pq B])/\w'=M):=by rw[<-l,<-hB];exact D_ (some r) U
 have HB1:Hid (Bq U M):=by rw[<-l];exact((Gr.refl U).alloc _).below
 have ze:Hid (Cw 64 #[.func (.func 104) #[] #[Pq B]] M λe w'=>∃(v:Fd) (i:zzc),e=Rw v/\i.Perm (intKeys D)/\w'.ownsRow M.heap.size 3 1 v i.length ((i.mergeSort (λx y=>decide (x<=y))).map encZ)/\Bq M w'):=by
  refine xh r n B D M ?_ ?_ ?_ hn;.rw[<-l,<-hB];simp
  .rw[<-l,<-hB];simp
  .rw[<-l];exact N.alloc _
 have Q:=qH<|intKeys_wf N underlying3;have V:=qH<|fun(i:zzc) (O:i.Perm (intKeys D)) (id:Int) h=>Pc I O (id:=id) h;have Z:=qH<|fun(i:zzc) (O:i.Perm (intKeys D))=>(O.length_eq.trans (by obtain⟨es,rfl,_⟩:=N.entries mG;exact qE _):i.length=Maps.size D);have R:=qH<|N.size_le;have HM:=qH hM;have Y:=qH hS;clear N I hM hS l;go_enter func34,ntmps34;go_wp2_with(first|(go_at_call 65;refine Ut HK ?_;rintro w1 h1;obtain rfl:=h1.symm)|(go_at_call 64;refine ze.mono ?_;rintro e U2 ⟨v2,i,rfl,O,E,zi⟩;obtain⟨p2,c2,rfl,s⟩:=IJ E (List.length_mergeSort _);have X:=qH s;have z:=qH O;have HB2:=qH<|HB1.trans (zi.mono HB1.size);clear E zi s O));obtain⟨L,A⟩:=af (i.mergeSort λx y=>decide (x<=y));have G:Hid (∀x,x∈L↔x∈i):=λx=>by rw[<-A];exact(JY _ _).mem_iff
 have zj:L.length=i.length:=by rw[<-A];exact List.length_mergeSort _
 obtain⟨K,hK⟩:=af i.length;have zq:K<=4000000000000:=by have:=Z i z;have:=R.out;omega
 have T:Hid (L.length=K):=zj.trans hK;rw[A,hK]at X;rw[hK];have HW:Hid (∀x∈L,eU x):=λx P=>qv (Q x (z.out.mem_iff.1 ((G x).1 P)));have HZ:Hid (∀id,id∉L->o id=0):=λid h=>V i z id (λq=>h ((G id).2 q));obtain⟨b,C⟩:∃f:Nat->Int,(λj=>L[j]?.getD 0)=f:=⟨_,rfl⟩;have F:Hid (∀j,b j=L[j]?.getD 0):=λj=>by rw[<-C]
 have zo:Hid (∀u,Bq U2 u->Mp u r n o/\u.cell? (aq S 3)=some (.map (some r))):=λu hu=>by have hb:=HB2.out.trans (hu.mono HB2.size);exact⟨HM.out.below hb HM.out.lt,(iX.cell (W:=u) ((hb.block S zr).trans Y)).2.2.2.1⟩
 clear A zj hK C HK ze Q V Z R HM Y z G c3;go_loopw[3,13] (λv iv wr=>∃k:Nat,iv=Iq k/\k<=K/\wr.ownsRow U2.heap.size 154 2 v k (fZ b (λj=>o (b j)) k)/\Bq U2 wr) (λ_ iv _=>K-(intOf iv).toNat);.exact⟨0,rfl,LT,gw _ _ _ _,Ok⟩
 obtain⟨k,rfl,hk,d,m⟩:=hrel;by_cases zv:k<K
 .have zA:(k:Int)<(K:Int):=dg;obtain⟨g,rfl,H,s⟩:=X.out.resolve_left dg;obtain⟨x,P⟩:=af (b k);have q0:wr.cell? (aq g k)=some (Iq x):=by rw[m.cell (p:=(aq g k)) H,s k zv,<-F k,P]
  have zm:eU x:=HW x (by rw[<-P,F k,da (by have:=T.out;omega)];exact kK _);obtain⟨hm,q3⟩:=zo wr m;obtain⟨_,zu⟩:=hm.look zm;obtain⟨y,hy⟩:=af (o x);rw[hy]at zu;have HS:Hid (fZ b (λj=>o (b j)) (k+1)=fZ b (λj=>o (b j)) k++[Iq x,Iq y]):=qH<|by rw[fZ,P,hy]
  clear s P hy hm;go_wp2_with(at_builtin;refine Xz (W0:=U2) hi zw zx zy d m [Iq x,Iq y] rfl _ _ rfl underlying85 ⟨rfl,by decide,by decide⟩ rfl rfl ⟨rfl,rfl⟩ dg ?_;intro v' w1 J zt;clear d m);go_roundw;.exact⟨k+1,by go_num,dg,by rw[HS.out];exact J,zt⟩
  .simp[intOf];omega
 .have zC:¬(k:Int)<(K:Int):=dg;obtain rfl:k=K:=dg;have HV:Hid (∃p c,u3=.slice p k c/\og wr p k b (λj=>o (b j))/\∀a:Addr,p=some a->a.block<wr.heap.size):=by
   have h0:=d;rcases d.2 with⟨rfl,rfl⟩|⟨g,zh,zB,rfl,hb,hg,h1,h2,_⟩;.exact⟨none,0,rfl,.inl rfl,λa e=>by cases e⟩
   .have H:=(aj.1 hg).1;refine⟨some (aq g 0),zh,rfl,.inr ⟨g,0,rfl,H,λj hj=>?_⟩,λa e=>rn⟩;have:=se b (λj=>o (b j)) k j hj;have hl:=k9 b (λj=>o (b j)) k;rw[h0.cellAt _ dg,h0.cellAt _ dg,b_];omega
  obtain⟨p',c',rfl,zk,zl⟩:=HV.out;have zg:=qH<|And.intro zk zl;have zn:=qH<|HB2.out.trans (m.mono HB2.size);clear d HV zk zl m;go_wp2;go_ret;refine⟨p',k,c',b,_,rfl,zg.1,zg.2,zq,λid=>BP id k (λj _=>rfl) λh=>HZ id λhm=>?_,zn⟩;obtain⟨j,hj,e⟩:=mh.1 hm;refine h j (by have:=T.out;omega) ?_;rw[F j,da hj];exact e
