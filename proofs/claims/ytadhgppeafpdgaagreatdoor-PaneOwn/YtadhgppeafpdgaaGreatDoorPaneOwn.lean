import Derived.Test.YtadhgppeafpdgaaGreatDoorQ50
namespace Go.Proofs.YtadhgppeafpdgaaGreatDoor.paneOwn
open Go.ChangeShapes Go.WideShapes Go.ChangeAt Go.RowKit
open Go.ChangeMaps (open_string shut_string)
set_option linter.all false
theorem plain(f:FuncId)(fn:Func)(hf:Tryz.pinned.checked.prog.funcNamed Rows.paneOwnRow.func=some f)(hfn:Tryz.pinned.checked.prog.funcs[f]?=some fn):
 true=Tryz.pinned.checked.prog.looks []/\∀(j:Nat) t,fn.params[j]?=some t->Tryz.pinned.checked.prog.wantsStandIn t=false:=by
 obtain rfl:f=3:=gZ ((show Tryz.prog.funcNamed Rows.paneOwnRow.func=some 3 by kernel_rfl).symm.trans hf)|>.symm;obtain rfl:fn=Tryz.f3:=(gZ (Tryz.func3.symm.trans hfn)).symm;refine⟨by kernel_rfl,fun j t ht=>?_⟩;rw[Tryz.params3]at ht;have hq:=Array.mem_of_getElem? ht;simp only[List.mem_toArray,ja,List.not_mem_nil,or_false]at hq;rcases hq with rfl|rfl|rfl;·exact(show Tryz.prog.wantsStandIn 3=false by kernel_rfl)
 ·exact(show Tryz.prog.wantsStandIn 3=false by kernel_rfl)
 ·exact(show Tryz.prog.wantsStandIn 22=false by kernel_rfl)
theorem proved:Rows.PaneOwnCardSaid:=
 Claim7.holds_tied_plain_at .later [] _ _ _ _ zh9 (fun _ h=>by cases h) (by kernel_rfl) (fun _ h=>by cases h) paneOwn_row_tie rfl ⟨rfl,rfl⟩ (by kernel_rfl) rfl plain (by kernel_rfl)
#print axioms proved
end Go.Proofs.YtadhgppeafpdgaaGreatDoor.paneOwn
