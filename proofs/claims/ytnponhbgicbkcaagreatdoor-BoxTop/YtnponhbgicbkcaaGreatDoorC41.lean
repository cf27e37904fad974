import Derived.Shelf.SortM.Plain
import Derived.Shelf.SortM.SortNone
import Derived.Ground.SlgmProg
import Derived.Test.YtnponhbgicbkcaaGreatDoorC10
set_option linter.unusedVariables false
set_option maxRecDepth 100000
set_option maxHeartbeats 16000000
namespace Go.Proofs.YtnponhbgicbkcaaGreatDoor
end Go.Proofs.YtnponhbgicbkcaaGreatDoor
namespace Go.Proofs
open Go.Shelf
shelf_lay_g SlLaysM.n5 Slgm 5 at Tryz 212 as Tryz.sortLaid
end Go.Proofs
namespace Go.Proofs.YtnponhbgicbkcaaGreatDoor
section
open Go.RowKit Go.Sort
theorem zac{w:World}{g n off:Nat}{os:Array Obj}(d:Array Int):w.grownBy (grow (putRow (Value.int .i64) (Sort.ahead w n) g off d) os) (some g):=by
 refine⟨rfl,rfl,rfl,by simp,fun k hk hne=>?_⟩
 rw[heap_grow_old _ _ (by simpa using hk)]
 have:g≠k:=fun e=>hne (by rw[e])
 simp[putRow,mapBlock,Sort.ahead,Array.getElem?_modify,this]
theorem zai(zs:List Int)(blk off cap n:Nat)(w:World)(h:IRow w blk off zs)(hn:zs.length=n)(hlen:n≤1099511627776) :
 Calls Tryz.prog 212 #[.slice (some ⟨blk,off,none⟩) n cap] w fun e w'=>e=.returned (.tuple #[])∧IRow w' blk off (zs.mergeSort fun x y=>decide (x≤y))∧w.grownBy w' (some blk):=by
 subst hn
 have hH:Holds (Value.int .i64) w blk off zs.toArray:=fun j hj=>by
  have hj':j<zs.length:=by simpa using hj
  refine⟨?_,(h.2 j hj').2⟩
  rw[(h.2 j hj').1];simp[hj']
 refine (AnyM.slices_Sort_int Tryz.sortLaid blk off cap zs w hH h.1 (by omega)).mono ?_
 rintro e w' ⟨he,q,os,rfl⟩
 refine⟨he,?_,zac _⟩
 obtain⟨ms,hms⟩:∃ms,(zs.mergeSort fun x y=>decide (x≤y))=ms:=⟨_,rfl⟩
 have hml:ms.length=zs.length:=by rw[<-hms];exact (List.mergeSort_perm _ _).length_eq
 rw[hms]
 have h1:Holds (Value.int .i64) (putRow (Value.int .i64) (Sort.ahead w q) blk off ms.toArray) blk off ms.toArray:=holds_putRow _ _ _ _ zs.toArray _ hH (by simp[hml])
 have hX:blk<(putRow (Value.int .i64) (Sort.ahead w q) blk off ms.toArray).heap.size:=by simpa using h.1
 have hB:Below (putRow (Value.int .i64) (Sort.ahead w q) blk off ms.toArray).heap.size (putRow (Value.int .i64) (Sort.ahead w q) blk off ms.toArray) (grow (putRow (Value.int .i64) (Sort.ahead w q) blk off ms.toArray) os) :=
  ⟨rfl,rfl,rfl,by simp,fun k hk=>heap_grow_old _ _ hk⟩
 refine⟨Nat.lt_of_lt_of_le hX hB.size,fun j hj=>?_⟩
 have:=h1 j (by simpa using hj)
 refine⟨(hB.cell (p:=⟨blk,off+j,none⟩) hX).trans (this.1.trans ?_),(hB.frozen (p:=⟨blk,off+j,none⟩) hX).trans this.2⟩
 simp[hj]
end
end Go.Proofs.YtnponhbgicbkcaaGreatDoor
