import Derived.Test.YtadhgppeafpdgaaGreatDoorQ12
import Derived.Test.YtadhgppeafpdgaaGreatDoorRows
import Derived.WalkSpells
import Derived.WalkLawsBesides
import Derived.Test.YtadhgppeafpdgaaGreatDoorQ00
set_option linter.all false
set_option maxRecDepth 100000
set_option maxHeartbeats 16000000
namespace Go.Proofs.YtadhgppeafpdgaaGreatDoor
open Go.RowKit Go.Proofs.Tryz
theorem Lt(r:Int)(w:World):
 Cw 84 #[.int .i32 r] w fun e w'=>e=Rw (.int .i32 (fF r))/\w'=w:=by
 unfold fF;by_cases h1:r<32
 ·by_cases h2:r=10;·subst h2;go_enter func84,ntmps84;go_wp2;go_ret;simp_all
  ·have zn:(r !=10)=true:=by simp[h2]
   rw[if_pos (Or.inl ⟨h1,h2⟩)];clear h2;go_enter func84,ntmps84;go_wp2;go_ret;simp_all
 ·by_cases h3:127<=r
  ·by_cases h4:r<=159;·rw[if_pos (Or.inr ⟨h3,h4⟩)];go_enter func84,ntmps84;go_wp2;go_ret;simp_all
   ·rw[if_neg (by omega)];go_enter func84,ntmps84;go_wp2;go_ret;simp_all
  ·rw[if_neg (by omega)];go_enter func84,ntmps84;go_wp2;go_ret;simp_all
def pz(n:Int):Int:=if n<0\/1114111<n\/(55296<=n/\n<=57343)then 65533 else n
theorem Qp  n  :0<=pz n/\pz n<=1114111:=by grind[pz]
theorem zc  n  :Lib.encodeRuneZ (pz n)=Lib.encodeRuneZ n:=by
 unfold pz;split;·rename_i h;rw[Lib.encodeRuneZ_bad (r:=n) (by omega)];rfl
 ·rfl
theorem F6(n:Int)(w:World):
 Cw 144 #[Iq n] w fun e w'=>e=Rw (.int .i32 (pz n))/\w'=w:=by
 unfold pz;by_cases h1:n<0;·rw[if_pos (Or.inl h1)];go_enter func144,ntmps144;go_wp2;go_ret;simp_all
 ·by_cases h2:1114111<n;·rw[if_pos (Or.inr (Or.inl h2))];go_enter func144,ntmps144;go_wp2;go_ret;simp_all
  ·by_cases h3:55296<=n
   ·by_cases h4:n<=57343;·rw[if_pos (Or.inr (Or.inr ⟨h3,h4⟩))];go_enter func144,ntmps144;go_wp2;go_ret;simp_all
    ·rw[if_neg (by omega)];go_enter func144,ntmps144;go_wp2;go_ret;simp_all
   ·rw[if_neg (by omega)];go_enter func144,ntmps144;go_wp2;go_ret;simp_all
theorem Lr{r}(h0:0<=r)(h1:r<=2147483647):0<=fF r/\fF r<=2147483647:=by grind[fF]
theorem zct:(prog.info? 3).map (fun i=>(i.zero,i.size,i.bytes))=some (some (Iq 0),1,8):=by kernel_rfl
theorem o_{w:World}{B B'}{e}{size}{v}{n}{xs}(h:w.ownsRow B e size v n xs)(hB:B'<=B):w.ownsRow B' e size v n xs:=by
 refine⟨h.1,?_⟩;rcases h.2 with h2|⟨g,cap,cM,a,b,c⟩;·grind
 ·exact .inr ⟨g,cap,cM,a,aH hB b,c⟩
theorem Bm{s:ByteArray}{pos}(h:pos<s.size):s.data.toList.drop pos≠[]:=by simp_all
theorem jn(s:ByteArray)(w:World)(hs:s.size<=17592186044416):
 Cw 54 #[.string s] w fun e w'=>∃v,e=Rw v/\w'.ownsRow w.heap.size 3 1 v (ap s.data.toList).length ((ap s.data.toList).map (Value.int .i64))/\Bt w w':=by
 obtain⟨i0,hi,dJ,fy,fB⟩:=info_parts zct;go_enter func54,ntmps54;go_wp2;go_loopw[3] (fun v wr=>∃(pos:Nat) (acc:List Int),wr.ownsRow (w.heap.size+1) 3 1 v acc.length (acc.map (Value.int .i64))/\wr.heap[w.heap.size]?=some (.stringIter s pos)/\Bt w wr/\acc++ap (s.data.toList.drop pos)=ap s.data.toList/\acc.length<=pos) (fun _ wr=>s.size-wr.iterPos w.heap.size);case atStart=>refine⟨0,[],jb _ _ _ _,?_,(ag _ w).alloc (ae _) _,rfl,ae _⟩;have:=World.iter_heap w s 0;omega
 case round=>
  obtain⟨pos,acc,bC,hit,b_,zo,zq⟩:=hrel;have eV:=(az.1 hit).1;by_cases hp:pos<s.size
  ·obtain⟨r,n,hd⟩:∃r n,Utf8.decode s pos=(r,n):=⟨_,_,rfl⟩;have L8:∀ty,(Instr.next (Pq w.heap.size) true ty).run prog wr=.ok (.tuple #[.bool true,Iq pos,.int .i32 r]) (wr.iterAt w.heap.size s (pos+n)):=fun ty=>by have:=Lib.run_next_any_at (P:=prog) wr w.heap.size s pos ty hit hp;grind
   have hdd:ub (s.data.toList.drop pos)=(r,n):=by rw[<-EM,hd]
   have zv:1<=n:=by have:=me (s.data.toList.drop pos);rw[hdd]at this;exact this
   have hr1:r<=2147483647:=by have:=EL (s.data.toList.drop pos);rw[hdd]at this;exact this
   have hy:=Lr (r:=(r:Int)) (by omega) (by omega);have HR:Hid ((acc++[fF r])++ap (s.data.toList.drop (pos+n))=ap s.data.toList):=by show _=_;rw[<-zo,iZ (Bm hp),hdd,List.drop_drop];simp
   have zbF:=Lib.iterAt_heap wr w.heap.size s pos (pos+n) hit;have Ks:=Lib.below_iterAt b_ (k:=w.heap.size) (ae _) s (pos+n);have jT:=ownsRow_iterAt bC (k:=w.heap.size) (by omega) s (pos+n);have hsz2:(wr.iterAt w.heap.size s (pos+n)).heap.size=wr.heap.size:=Lib.iterAt_size _ _ _ _;have HS:=qH<|hsz2;clear hd hdd zo bC b_ hsz2;go_wp2_with(first
    |(go_at_call 84;refine(Lt _ _).mono ?_;rintro e w' ⟨rfl,rfl⟩)
    |(at_builtin;refine wpList_append_own _ rfl _ _ 34 rfl (w.heap.size+1) 3 i0 (Iq 0) 1 8 underlying34 hi dJ fy fB rfl (by decide) _ _ _ rfl (jT.alloc _) _ 1 1 [Iq (fF r)] rfl rfl ?c1 ?c2 ?c3 ?c4 ?c5 ?_));case c1=>exact cell_one_new _ _ _
   case c2=>intro u hu;simp at hu;subst hu;rfl
   case c3=>unfold maxLen;omega
   case c4=>omega
   case c5=>rw[aA,HS.out];omega
   intro v' w1 bS hg _;have hrow:=fun q hq=>(jT.lt q hq).1;have hb1:=(Ks.alloc (by grind) _).grown hg (by rw[aA,HS.out];omega) (fun q hq=>by grind);have zbG:w1.heap[w.heap.size]?=some (.stringIter s (pos+n)):=by rw[hg.block w.heap.size (by rw[aA,HS.out];omega) (fun e=>by grind)];rw[cG _ _ _ (by grind)];exact zbF
   clear hg hrow jT Ks L8 zbF;go_wp2;go_roundw;case rel=>refine⟨pos+n,acc++[fF r],?_,zbG,hb1,HR,by grind⟩;grind
   case measure=>rw[iterPos_of zbG,iterPos_of hit];omega
  ·have L8:∀ty,(Instr.next (Pq w.heap.size) true ty).run prog wr=_:=fun ty=>Lib.run_next_end_at wr w.heap.size s pos ty hit hp;have he:ap (s.data.toList.drop pos)=[]:=by rw[IW (by simp_all),mJ]
   rw[he,ik]at zo;subst zo;clear he;go_wp2;go_ret;exact⟨_,rfl,o_ bC (by omega),b_⟩
theorem ED(s:ByteArray)  i   h  :aQ s.data.toList i=(s[i]'h).toNat:=by have:=Hj s 0 i;simp only[cB,List.drop_zero]at this;rw[<-this];have e:=get_at s i h;simp only[vJ]at e;rw[e]
theorem jV(s:ByteArray):s.data.toList.length=s.size:=by simp_all
/-! MQ 'sequence' zjA to, way by way. -/
