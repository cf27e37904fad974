import Derived.Below
set_option linter.unusedVariables false
set_option maxRecDepth 100000
set_option maxHeartbeats 16000000
namespace Go.Proofs.YtmbefonnkkhfgaaGreatDoor
section
open Go.RowKit
theorem qH{p:Prop}(h:p):Hid p:=h
abbrev Iq (x:Int):Value:=.int .i64 x
abbrev Pq (b:Nat):Value:=.pointer (some ⟨b,0,none⟩)
abbrev Sq (b n c:Nat):Value:=.slice (some ⟨b,0,none⟩) n c
theorem nmd{α:Sort _}(a:α):∃z,a=z:=⟨a,rfl⟩
end
section
open Go.RowKit
theorem new_cells(w:World)(news:List Value)(ty:TypeId):∀j u,news[j]?=some u->(w.alloc (.cells news.toArray ty)).cell? ((⟨w.heap.size,0,none⟩:Addr).add j)=some u:=by
 intro j u h;have e:(⟨w.heap.size,0,none⟩:Addr).add j=⟨w.heap.size,0+j,none⟩:=by unfold Addr.add;split<;>simp_all
 have hh:=heap_alloc_new w (.cells news.toArray ty);rw[e,Nat.zero_add];simp only[World.cell?];rw[hh];simpa using h
end
end Go.Proofs.YtmbefonnkkhfgaaGreatDoor
