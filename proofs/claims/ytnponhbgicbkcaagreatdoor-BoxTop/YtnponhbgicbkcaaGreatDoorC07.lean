import Derived.Test.YtnponhbgicbkcaaGreatDoorC00
import Derived.Test.YtnponhbgicbkcaaGreatDoorRows
import Derived.WalkKit
import Derived.WalkSpells
import Derived.WalkLawsBesides
set_option linter.unusedVariables false
set_option maxRecDepth 100000
set_option maxHeartbeats 16000000
namespace Go.Proofs.YtnponhbgicbkcaaGreatDoor
section
open Go.RowKit
theorem zn3(r:Int)(w:World) :
 Calls Tryz.prog 197 #[.int .i32 r] w fun e w'=>e=.returned (.int .i32 (z2v r))∧w'=w:=by
 unfold z2v
 by_cases h1:r<32
 ·by_cases h2:r=10
  ·subst h2
   go_enter Tryz.func197,Tryz.ntmps197
   go_wp2
   go_ret
   exact⟨rfl,rfl⟩
  ·have h2':(r != 10)=true:=by simp[h2]
   rw[if_pos (Or.inl ⟨h1,h2⟩)]
   clear h2
   go_enter Tryz.func197,Tryz.ntmps197
   go_wp2
   go_ret
   exact⟨rfl,rfl⟩
 ·by_cases h3:127≤r
  ·by_cases h4:r≤159
   ·rw[if_pos (Or.inr ⟨h3,h4⟩)]
    go_enter Tryz.func197,Tryz.ntmps197
    go_wp2
    go_ret
    exact⟨rfl,rfl⟩
   ·rw[if_neg (by omega)]
    go_enter Tryz.func197,Tryz.ntmps197
    go_wp2
    go_ret
    exact⟨rfl,rfl⟩
  ·rw[if_neg (by omega)]
   go_enter Tryz.func197,Tryz.ntmps197
   go_wp2
   go_ret
   exact⟨rfl,rfl⟩
def zca(n:Int):Int:=if n<0∨1114111<n∨(55296≤n∧n≤57343) then 65533 else n
theorem zq0(n:Int):0≤zca n∧zca n≤1114111:=by unfold zca;split <;> omega
theorem zd6(n:Int):Lib.encodeRuneZ (zca n)=Lib.encodeRuneZ n:=by
 unfold zca
 split
 ·rename_i h
  rw[Lib.encodeRuneZ_bad (r:=n) (by omega)]
  rfl
 ·rfl
theorem zj9(n:Int)(w:World) :
 Calls Tryz.prog 218 #[.int .i64 n] w fun e w'=>e=.returned (.int .i32 (zca n))∧w'=w:=by
 unfold zca
 by_cases h1:n<0
 ·rw[if_pos (Or.inl h1)]
  go_enter Tryz.func218,Tryz.ntmps218
  go_wp2
  go_ret
  exact⟨rfl,rfl⟩
 ·by_cases h2:1114111<n
  ·rw[if_pos (Or.inr (Or.inl h2))]
   go_enter Tryz.func218,Tryz.ntmps218
   go_wp2
   go_ret
   exact⟨rfl,rfl⟩
  ·by_cases h3:55296≤n
   ·by_cases h4:n≤57343
    ·rw[if_pos (Or.inr (Or.inr ⟨h3,h4⟩))]
     go_enter Tryz.func218,Tryz.ntmps218
     go_wp2
     go_ret
     exact⟨rfl,rfl⟩
    ·rw[if_neg (by omega)]
     go_enter Tryz.func218,Tryz.ntmps218
     go_wp2
     go_ret
     exact⟨rfl,rfl⟩
   ·rw[if_neg (by omega)]
    go_enter Tryz.func218,Tryz.ntmps218
    go_wp2
    go_ret
    exact⟨rfl,rfl⟩
end
section
open Go.RowKit
theorem zn2{r:Int}(h0:0≤r)(h1:r≤2147483647):0≤z2v r∧z2v r≤2147483647:=by unfold z2v;split <;> omega
theorem zvo:(Tryz.prog.info? 3).map (fun i=>(i.zero,i.size,i.bytes))=some (some (.int .i64 0),1,8):=by kernel_rfl
theorem z84{w:World}{B B':Nat}{e:TypeId}{size:Nat}{v:Value}{n:Nat}{xs:List Value}(h:w.ownsRow B e size v n xs)(hB:B'≤B):w.ownsRow B' e size v n xs:=by
 refine⟨h.1,?_⟩
 rcases h.2 with h2|⟨g,cap,cur,a,b,c⟩
 ·exact .inl h2
 ·exact .inr ⟨g,cap,cur,a,Nat.le_trans hB b,c⟩
theorem zer{s:ByteArray}{pos:Nat}(h:pos<s.size):s.data.toList.drop pos≠[]:=by
 intro e
 have:=congrArg List.length e
 rw[List.length_drop,Array.length_toList] at this
 simp only[List.length_nil] at this
 have e2:s.data.size=s.size:=rfl
 omega
theorem zew(s:ByteArray)(w:World)(hs:s.size≤17592186044416) :
 Calls Tryz.prog 182 #[.string s] w fun e w'=>∃v,e=.returned v∧w'.ownsRow w.heap.size 3 1 v (z0p s.data.toList).length ((z0p s.data.toList).map (Value.int .i64))∧Below w.heap.size w w':=by
 obtain⟨i0,hi,hz0,hz1,hz2⟩:=info_parts zvo
 go_enter Tryz.func182,Tryz.ntmps182
 go_wp2
 go_loopw [3] (fun v wr=>∃ (pos:Nat) (acc:List Int),wr.ownsRow (w.heap.size+1) 3 1 v acc.length (acc.map (Value.int .i64))∧wr.heap[w.heap.size]?=some (.stringIter s pos)∧Below w.heap.size w wr∧acc++z0p (s.data.toList.drop pos)=z0p s.data.toList∧acc.length≤pos) (fun _ wr=>s.size - wr.iterPos w.heap.size)
 case atStart =>
  refine⟨0,[],World.ownsRow_nil _ _ _ _,?_,(Below.refl _ w).alloc (Nat.le_refl _) _,rfl,Nat.le_refl _⟩
  have:=World.iter_heap w s 0
  simpa using this
 case round =>
  obtain⟨pos,acc,hown,hit,hbw,hacc,hal⟩:=hrel
  have hsz:w.heap.size<wr.heap.size:=(Array.getElem?_eq_some_iff.1 hit).1
  by_cases hp:pos<s.size
  ·obtain⟨r,n,hd⟩:∃r n,Utf8.decode s pos=(r,n):=⟨_,_,rfl⟩
   have hnx:∀ty,(Instr.next (.pointer (some ⟨w.heap.size,0,none⟩)) true ty).run Tryz.prog wr=.ok (.tuple #[.bool true,.int .i64 pos,.int .i32 r]) (wr.iterAt w.heap.size s (pos+n)):=fun ty=>by
    have:=Lib.run_next_any_at (P:=Tryz.prog) wr w.heap.size s pos ty hit hp
    rw[hd] at this;exact this
   have hdd:dec (s.data.toList.drop pos)=(r,n):=by rw[<-zi0,hd]
   have hn1:1≤n:=by have:=z8z (s.data.toList.drop pos);rw[hdd] at this;exact this
   have hr1:r≤2147483647:=by have:=zhz (s.data.toList.drop pos);rw[hdd] at this;exact this
   have hy:=zn2 (r:=(r:Int)) (by omega) (by omega)
   have HR:Hid ((acc++[z2v r])++z0p (s.data.toList.drop (pos+n))=z0p s.data.toList):=by
    show _=_
    rw[<-hacc,z42 (zer hp),hdd,List.drop_drop];simp
   have hit2:=Lib.iterAt_heap wr w.heap.size s pos (pos+n) hit
   have hbw2:=Lib.below_iterAt hbw (k:=w.heap.size) (Nat.le_refl _) s (pos+n)
   have hown2:=ownsRow_iterAt hown (k:=w.heap.size) (by omega) s (pos+n)
   have hsz2:(wr.iterAt w.heap.size s (pos+n)).heap.size=wr.heap.size:=Lib.iterAt_size _ _ _ _
   have HS:Hid ((wr.iterAt w.heap.size s (pos+n)).heap.size=wr.heap.size):=hsz2
   clear hd hdd hacc hown hbw hsz2
   go_wp2_with (first
    | (go_at_call 197;refine (zn3 _ _).mono ?_;rintro e w' ⟨rfl,rfl⟩)
    | (at_builtin;refine wpList_append_own _ rfl _ _ 67 rfl (w.heap.size+1) 3 i0 (.int .i64 0) 1 8 Tryz.underlying67 hi hz0 hz1 hz2 rfl (by decide) _ _ _ rfl (hown2.alloc _) _ 1 1 [.int .i64 (z2v r)] rfl rfl ?c1 ?c2 ?c3 ?c4 ?c5 ?_))
   case c1=>exact cell_one_new _ _ _
   case c2=>intro u hu;simp at hu;subst hu;rfl
   case c3=>unfold maxLen;omega
   case c4=>omega
   case c5=>rw[World.size_alloc,HS.out];omega
   intro v' w1 hown' hg _
   have hrow:∀q,Value.ownBlock u3=some q->w.heap.size+1≤q:=fun q hq=>(hown2.lt q hq).1
   have hb1:Below w.heap.size w w1:=(hbw2.alloc (by rw[HS.out];omega) _).grown hg (by rw[World.size_alloc,HS.out];omega) (fun q hq=>by have:=hrow q hq;omega)
   have hit3:w1.heap[w.heap.size]?=some (.stringIter s (pos+n)):=by
    rw[hg.block w.heap.size (by rw[World.size_alloc,HS.out];omega) (fun e=>by have:=hrow _ e.symm;omega)]
    rw[Below.heap_alloc _ _ _ (by rw[HS.out];omega)]
    exact hit2
   clear hg hrow hown2 hbw2 hnx hit2
   go_wp2
   go_roundw
   case rel =>
    refine⟨pos+n,acc++[z2v r],?_,hit3,hb1,HR.out,by simp;omega⟩
    rw[List.length_append,List.map_append];exact hown'
   case measure =>
    rw[iterPos_of hit3,iterPos_of hit];omega
  ·have hnx:∀ty,(Instr.next (.pointer (some ⟨w.heap.size,0,none⟩)) true ty).run Tryz.prog wr=_:=fun ty=>Lib.run_next_end_at wr w.heap.size s pos ty hit hp
   have he:z0p (s.data.toList.drop pos)=[]:=by
    rw[List.drop_eq_nil_of_le (by rw[Array.length_toList];exact Nat.le_of_not_lt hp),z73]
   rw[he,List.append_nil] at hacc
   subst hacc
   clear he
   go_wp2
   go_ret
   exact⟨_,rfl,z84 hown (by omega),hbw⟩
end
end Go.Proofs.YtnponhbgicbkcaaGreatDoor
