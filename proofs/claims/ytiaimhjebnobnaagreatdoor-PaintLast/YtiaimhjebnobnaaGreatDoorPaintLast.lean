import Derived.Test.YtiaimhjebnobnaaGreatDoorQ52
namespace Go.Proofs.YtiaimhjebnobnaaGreatDoor.paintLast
open Go.ChangeShapes Go.WideShapes Go.ChangeAt Go.RowKit
open Go.ChangeMaps (open_string shut_string)
set_option linter.all false
theorem plain(f:FuncId)(fn:Func)(hf:Tryz.pinned.checked.prog.funcNamed Rows.paintLastRow.func=some f)(hfn:Tryz.pinned.checked.prog.funcs[f]?=some fn):
 true=Tryz.pinned.checked.prog.looks []/\∀(j:Nat) t,fn.params[j]?=some t->Tryz.pinned.checked.prog.wantsStandIn t=false:=by
 obtain rfl:f=3:=ng ((show Tryz.prog.funcNamed Rows.paintLastRow.func=some 3 by kernel_rfl).symm.trans hf)|>.symm;obtain rfl:fn=Tryz.f3:=(ng (Tryz.func3.symm.trans hfn)).symm;refine⟨by kernel_rfl,fun j t ht=>?_⟩;rw[Tryz.params3]at ht;have hm:t=22\/t=3\/t=9:=by
  have hq:=Array.mem_of_getElem? ht;simp only[List.mem_toArray,km,List.not_mem_nil,or_false]at hq;rcases hq with h|h|h|h;·exact .inr (.inr h)
  ·exact .inr (.inl h)
  ·exact .inr (.inl h)
  ·exact .inl h
 rcases hm with rfl|rfl|rfl;·exact(show Tryz.prog.wantsStandIn 22=false by kernel_rfl)
 ·exact(show Tryz.prog.wantsStandIn 3=false by kernel_rfl)
 ·exact(show Tryz.prog.wantsStandIn 9=false by kernel_rfl)
theorem proved:Rows.PaintLastCardSaid:=
 Claim7.holds_tied_plain_at .later [] _ _ _ _ zjm (fun _ h=>by cases h) (by kernel_rfl) (fun _ h=>by cases h) paintLast_row_tie rfl ⟨rfl,rfl⟩ (by kernel_rfl) rfl plain (by kernel_rfl)
#print axioms proved
end Go.Proofs.YtiaimhjebnobnaaGreatDoor.paintLast
