import Derived.Test.YtadhgppeafpdgaaGreatDoorQ02
import Derived.Lib.Bytealg
set_option linter.all false
set_option maxRecDepth 100000
set_option maxHeartbeats 16000000
namespace Go.Proofs.YtadhgppeafpdgaaGreatDoor
open Go.RowKit Go.Proofs.Tryz
theorem JX(s:ByteArray)(c:UInt8)(w:World):Cw 252 #[.string s,.string ⟨#[c]⟩] w fun e w'=>e=Rw (Iq (s.data.toList.count c:Nat))/\w'=w:=by
 have ga:(({data:=#[c]}:ByteArray)[0]'(by show 0<1;omega))=c:=rfl;go_enter func252,ntmps252;go_wp2;rw[run_callFunc_extern func269 (by kernel_rfl) (by kernel_rfl) (by kernel_rfl) (e:=Extern.BytealgCount.count) (by kernel_rfl),Lib.run_countString];simp only[Result.andThen];rw[D4];go_wp2;go_ret;refine⟨?_,rfl⟩;have:((c.toNat:Int).toNat.toUInt8)=c:=by simp
 first|rw[this];rfl|simp[Lib.countByte]
