import Derived.Test.YtmbefonnkkhfgaaGreatDoorQ01
import Derived.Test.YtmbefonnkkhfgaaGreatDoorRows
import Derived.WalkKit
import Derived.WalkSpells
import Derived.WalkLawsBesides
import Derived.Test.YtmbefonnkkhfgaaGreatDoorQ00
set_option linter.unusedVariables false
set_option maxRecDepth 100000
set_option maxHeartbeats 16000000
namespace Go.Proofs.YtmbefonnkkhfgaaGreatDoor
section
open Go.RowKit Go.Proofs.Tryz
theorem shown_any(r:Int)(w:World):
 Calls prog 38 #[.int .i32 r] w fun e w'=>e=.returned (.int .i32 (shownI r))∧w'=w:=by
 unfold shownI;by_cases h1:r<32
 ·by_cases h2:r=10;·subst h2;go_enter func38,ntmps38;go_wp2;go_ret;exact⟨rfl,rfl⟩
  ·have h2':(r !=10)=true:=by simp[h2]
   rw[if_pos (Or.inl ⟨h1,h2⟩)];clear h2;go_enter func38,ntmps38;go_wp2;go_ret;exact⟨rfl,rfl⟩
 ·by_cases h3:127≤r
  ·by_cases h4:r≤159;·rw[if_pos (Or.inr ⟨h3,h4⟩)];go_enter func38,ntmps38;go_wp2;go_ret;exact⟨rfl,rfl⟩
   ·rw[if_neg (by omega)];go_enter func38,ntmps38;go_wp2;go_ret;exact⟨rfl,rfl⟩
  ·rw[if_neg (by omega)];go_enter func38,ntmps38;go_wp2;go_ret;exact⟨rfl,rfl⟩
def runeI(n:Int):Int:=if n<0∨1114111<n∨(55296≤n∧n≤57343)then 65533 else n
theorem runeI_bd(n:Int):0≤runeI n∧runeI n≤1114111:=by unfold runeI;split<;>omega
theorem encode_runeI(n:Int):Lib.encodeRuneZ (runeI n)=Lib.encodeRuneZ n:=by
 unfold runeI;split;·rename_i h;rw[Lib.encodeRuneZ_bad (r:=n) (by omega)];rfl
 ·rfl
theorem runeOf_any(n:Int)(w:World):
 Calls prog 71 #[Iq n] w fun e w'=>e=.returned (.int .i32 (runeI n))∧w'=w:=by
 unfold runeI;by_cases h1:n<0;·rw[if_pos (Or.inl h1)];go_enter func71,ntmps71;go_wp2;go_ret;exact⟨rfl,rfl⟩
 ·by_cases h2:1114111<n;·rw[if_pos (Or.inr (Or.inl h2))];go_enter func71,ntmps71;go_wp2;go_ret;exact⟨rfl,rfl⟩
  ·by_cases h3:55296≤n
   ·by_cases h4:n≤57343;·rw[if_pos (Or.inr (Or.inr ⟨h3,h4⟩))];go_enter func71,ntmps71;go_wp2;go_ret;exact⟨rfl,rfl⟩
    ·rw[if_neg (by omega)];go_enter func71,ntmps71;go_wp2;go_ret;exact⟨rfl,rfl⟩
   ·rw[if_neg (by omega)];go_enter func71,ntmps71;go_wp2;go_ret;exact⟨rfl,rfl⟩
end
section
open Go.RowKit Go.Proofs.Tryz
theorem shownI_bd{r:Int}(h0:0≤r)(h1:r≤2147483647):0≤shownI r∧shownI r≤2147483647:=by unfold shownI;split<;>omega
theorem info3:(prog.info? 3).map (fun i=>(i.zero,i.size,i.bytes))=some (some (Iq 0),1,8):=by kernel_rfl
theorem ownsRow_base{w:World}{B B':Nat}{e:TypeId}{size:Nat}{v:Value}{n:Nat}{xs:List Value}(h:w.ownsRow B e size v n xs)(hB:B'≤B):w.ownsRow B' e size v n xs:=by
 refine⟨h.1,?_⟩;rcases h.2 with h2|⟨g,cap,cur,a,b,c⟩;·exact .inl h2
 ·exact .inr ⟨g,cap,cur,a,Nat.le_trans hB b,c⟩
theorem drop_ne_nil{s:ByteArray}{pos:Nat}(h:pos<s.size):s.data.toList.drop pos≠[]:=by intro e;have:=congrArg List.length e;rw[List.length_drop,Array.length_toList]at this;simp only[List.length_nil]at this;have e2:s.data.size=s.size:=rfl;omega
theorem gDecode_any(s:ByteArray)(w:World)(hs:s.size≤17592186044416):
 Calls prog 18 #[.string s] w fun e w'=>∃v,e=.returned v∧w'.ownsRow w.heap.size 3 1 v (runes s.data.toList).length ((runes s.data.toList).map (Value.int .i64))∧Below w.heap.size w w':=by
 obtain⟨i0,hi,hz0,hz1,hz2⟩:=info_parts info3;go_enter func18,ntmps18;go_wp2;go_loopw[3] (fun v wr=>∃(pos:Nat) (acc:List Int),wr.ownsRow (w.heap.size+1) 3 1 v acc.length (acc.map (Value.int .i64))∧wr.heap[w.heap.size]?=some (.stringIter s pos)∧Below w.heap.size w wr∧acc++runes (s.data.toList.drop pos)=runes s.data.toList∧acc.length≤pos) (fun _ wr=>s.size-wr.iterPos w.heap.size);case atStart=>refine⟨0,[],World.ownsRow_nil _ _ _ _,?_,(Below.refl _ w).alloc (Nat.le_refl _) _,rfl,Nat.le_refl _⟩;have:=World.iter_heap w s 0;simpa using this
 case round=>
  obtain⟨pos,acc,hown,hit,hbw,hacc,hal⟩:=hrel;have hsz:=(Array.getElem?_eq_some_iff.1 hit).1;by_cases hp:pos<s.size
  ·obtain⟨r,n,hd⟩:∃r n,Utf8.decode s pos=(r,n):=⟨_,_,rfl⟩;have hnx:∀ty,(Instr.next (Pq w.heap.size) true ty).run prog wr=.ok (.tuple #[.bool true,Iq pos,.int .i32 r]) (wr.iterAt w.heap.size s (pos+n)):=fun ty=>by have:=Lib.run_next_any_at (P:=prog) wr w.heap.size s pos ty hit hp;rw[hd]at this;exact this
   have hdd:dec (s.data.toList.drop pos)=(r,n):=by rw[<-decode_dec,hd]
   have hn1:1≤n:=by have:=dec_pos (s.data.toList.drop pos);rw[hdd]at this;exact this
   have hr1:r≤2147483647:=by have:=dec_val_le (s.data.toList.drop pos);rw[hdd]at this;exact this
   have hy:=shownI_bd (r:=(r:Int)) (by omega) (by omega);have HR:Hid ((acc++[shownI r])++runes (s.data.toList.drop (pos+n))=runes s.data.toList):=by show _=_;rw[<-hacc,runes_step (drop_ne_nil hp),hdd,List.drop_drop];simp
   have hit2:=Lib.iterAt_heap wr w.heap.size s pos (pos+n) hit;have hbw2:=Lib.below_iterAt hbw (k:=w.heap.size) (Nat.le_refl _) s (pos+n);have hown2:=ownsRow_iterAt hown (k:=w.heap.size) (by omega) s (pos+n);have hsz2:(wr.iterAt w.heap.size s (pos+n)).heap.size=wr.heap.size:=Lib.iterAt_size _ _ _ _;have HS:=qH<|hsz2;clear hd hdd hacc hown hbw hsz2;go_wp2_with(first
    |(go_at_call 38;refine(shown_any _ _).mono ?_;rintro e w' ⟨rfl,rfl⟩)
    |(at_builtin;refine wpList_append_own _ rfl _ _ 59 rfl (w.heap.size+1) 3 i0 (Iq 0) 1 8 underlying59 hi hz0 hz1 hz2 rfl (by decide) _ _ _ rfl (hown2.alloc _) _ 1 1 [Iq (shownI r)] rfl rfl ?c1 ?c2 ?c3 ?c4 ?c5 ?_));case c1=>exact cell_one_new _ _ _
   case c2=>intro u hu;simp at hu;subst hu;rfl
   case c3=>unfold maxLen;omega
   case c4=>omega
   case c5=>rw[World.size_alloc,HS.out];omega
   intro v' w1 hown' hg _;have hrow:=fun q hq=>(hown2.lt q hq).1;have hb1:=(hbw2.alloc (by rw[HS.out];omega) _).grown hg (by rw[World.size_alloc,HS.out];omega) (fun q hq=>by have:=hrow q hq;omega);have hit3:w1.heap[w.heap.size]?=some (.stringIter s (pos+n)):=by rw[hg.block w.heap.size (by rw[World.size_alloc,HS.out];omega) (fun e=>by have:=hrow _ e.symm;omega)];rw[Below.heap_alloc _ _ _ (by rw[HS.out];omega)];exact hit2
   clear hg hrow hown2 hbw2 hnx hit2;go_wp2;go_roundw;case rel=>refine⟨pos+n,acc++[shownI r],?_,hit3,hb1,HR,by simp;omega⟩;rw[List.length_append,List.map_append];exact hown'
   case measure=>rw[iterPos_of hit3,iterPos_of hit];omega
  ·have hnx:∀ty,(Instr.next (Pq w.heap.size) true ty).run prog wr=_:=fun ty=>Lib.run_next_end_at wr w.heap.size s pos ty hit hp;have he:runes (s.data.toList.drop pos)=[]:=by rw[List.drop_eq_nil_of_le (by rw[Array.length_toList];exact Nat.le_of_not_lt hp),runes_nil]
   rw[he,List.append_nil]at hacc;subst hacc;clear he;go_wp2;go_ret;exact⟨_,rfl,ownsRow_base hown (by omega),hbw⟩
end
end Go.Proofs.YtmbefonnkkhfgaaGreatDoor
