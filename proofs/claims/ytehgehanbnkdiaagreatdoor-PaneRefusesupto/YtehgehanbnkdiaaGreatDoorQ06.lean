import Derived.Test.YtehgehanbnkdiaaGreatDoorQ02
import Derived.Lib.Bytealg
import Derived.Shelf.Abstract
set_option linter.all false
set_option maxRecDepth 100000
set_option maxHeartbeats 16000000
namespace Go.Proofs.YtehgehanbnkdiaaGreatDoor
open Go.RowKit Go.Proofs.Tryz
def Dw(s:BY)(c:UInt8)(w:AT):Cw 334 #[.string s,.string ⟨#[c]⟩] w λe w'=>e=Rw (Iq (s.data.toList.count c:Nat))/\w'=w:=by have a:(({data:=#[c]}:BY)[0]'(by show 0<1;omega))=c:=rfl;go_enter func334,ntmps334;go_wp2;rw[run_callFunc_extern func351 pt pt pt (e:=Extern.BytealgCount.count) pt,Lib.run_countString];simp only[Result.andThen];rw[xJ];go_wp2;go_ret;refine⟨?_,rfl⟩;have:((c.toNat:Int).toNat.toUInt8)=c:=At;first|rw[this];rfl|simp[Lib.countByte]
