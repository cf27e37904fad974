import Derived.Test.YtaanagpadfcmlaaGreatDoorQ54
namespace Go.Proofs.YtaanagpadfcmlaaGreatDoor.paintFrames
open Go.ChangeShapes Go.WideShapes Go.ChangeAt Go.RowKit
open Go.ChangeMaps (open_string shut_string)
set_option linter.all false
theorem plain(f:FuncId)(fn:Func)(d:Tryz.pinned.checked.prog.funcNamed Rows.paintFramesRow.func=some f)(a:Tryz.pinned.checked.prog.funcs[f]?=some fn):
 true=Tryz.pinned.checked.prog.looks []/\∀(j:Nat) t,fn.params[j]?=some t->Tryz.pinned.checked.prog.wantsStandIn t=false:=by
 obtain rfl:f=3:=kK ((show Tryz.prog.funcNamed Rows.paintFramesRow.func=some 3 by kernel_rfl).symm.trans d)|>.symm;obtain rfl:fn=Tryz.f3:=(kK (Tryz.func3.symm.trans a)).symm;refine⟨ns,λj t c=>?_⟩;rw[Tryz.params3]at c;have e:t=22\/t=3\/t=9:=by
  have b:=Array.mem_of_getElem? c;simp only[List.mem_toArray,gE,Kb,or_false]at b;rcases b with h|h|h|h;·exact .inr (.inr h)
  ·exact .inr (.inl h)
  ·exact .inr (.inl h)
  ·exact .inl h
 rcases e with rfl|rfl|rfl;·exact(show Tryz.prog.wantsStandIn 22=false by kernel_rfl)
 ·exact(show Tryz.prog.wantsStandIn 3=false by kernel_rfl)
 ·exact(show Tryz.prog.wantsStandIn 9=false by kernel_rfl)
theorem proved:Rows.PaintFramesCardSaid:=
 Claim7.holds_tied_plain_at .later [] _ _ _ _ TG (λ_ h=>by cases h) ns (λ_ h=>by cases h) paintFrames_row_tie rfl ⟨rfl,rfl⟩ ns rfl plain ns
#print axioms proved
end Go.Proofs.YtaanagpadfcmlaaGreatDoor.paintFrames
