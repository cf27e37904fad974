import Derived.Test.YtnponhbgicbkcaaGreatDoorL01
import Derived.Test.YtnponhbgicbkcaaGreatDoorRows
import Derived.WalkSpells
import Derived.WalkLawsBesides
import Derived.Test.YtnponhbgicbkcaaGreatDoorL00
set_option linter.unusedVariables false
set_option maxRecDepth 100000
set_option maxHeartbeats 16000000
namespace Go.Proofs.YtnponhbgicbkcaaGreatDoor
section
open Go.RowKit Go.Proofs.Tryz
theorem shown_any r  w :
 Calls prog 197 #[.int .i32 r] w fun e w'=>e=.returned (.int .i32 (shownI r))∧w'=w:=by
 unfold shownI;by_cases h1:r<32
 ·by_cases h2:r=10;·subst h2;go_enter func197,ntmps197;go_wp2;go_ret;exact⟨rfl,rfl⟩
  ·have h2':(r !=10)=true:=by simp[h2]
   rw[if_pos (Or.inl ⟨h1,h2⟩)];clear h2;go_enter func197,ntmps197;go_wp2;go_ret;exact⟨rfl,rfl⟩
 ·by_cases h3:127≤r
  ·by_cases h4:r≤159;·rw[if_pos (Or.inr ⟨h3,h4⟩)];go_enter func197,ntmps197;go_wp2;go_ret;exact⟨rfl,rfl⟩
   ·rw[if_neg (by omega)];go_enter func197,ntmps197;go_wp2;go_ret;exact⟨rfl,rfl⟩
  ·rw[if_neg (by omega)];go_enter func197,ntmps197;go_wp2;go_ret;exact⟨rfl,rfl⟩
def runeI(n:Int):Int:=if n<0∨1114111<n∨(55296≤n∧n≤57343)then 65533 else n
theorem runeI_bd n :0≤runeI n∧runeI n≤1114111:=by unfold runeI;split<;>omega
theorem encode_runeI n :Lib.encodeRuneZ (runeI n)=Lib.encodeRuneZ n:=by
 unfold runeI;split;·rename_i h;rw[Lib.encodeRuneZ_bad (r:=n) (by omega)];rfl
 ·rfl
theorem runeOf_any n  w :
 Calls prog 218 #[Iq n] w fun e w'=>e=.returned (.int .i32 (runeI n))∧w'=w:=by
 unfold runeI;by_cases h1:n<0;·rw[if_pos (Or.inl h1)];go_enter func218,ntmps218;go_wp2;go_ret;exact⟨rfl,rfl⟩
 ·by_cases h2:1114111<n;·rw[if_pos (Or.inr (Or.inl h2))];go_enter func218,ntmps218;go_wp2;go_ret;exact⟨rfl,rfl⟩
  ·by_cases h3:55296≤n
   ·by_cases h4:n≤57343;·rw[if_pos (Or.inr (Or.inr ⟨h3,h4⟩))];go_enter func218,ntmps218;go_wp2;go_ret;exact⟨rfl,rfl⟩
    ·rw[if_neg (by omega)];go_enter func218,ntmps218;go_wp2;go_ret;exact⟨rfl,rfl⟩
   ·rw[if_neg (by omega)];go_enter func218,ntmps218;go_wp2;go_ret;exact⟨rfl,rfl⟩
theorem shownI_bd{r}(h0:0≤r)(h1:r≤2147483647):0≤shownI r∧shownI r≤2147483647:=by unfold shownI;split<;>omega
theorem info3:(prog.info? 3).map (fun i=>(i.zero,i.size,i.bytes))=some (some (Iq 0),1,8):=by kernel_rfl
theorem ownsRow_base{w:World}{B B'}{e}{size}{v}{n}{xs}(h:w.ownsRow B e size v n xs)(hB:B'≤B):w.ownsRow B' e size v n xs:=by
 refine⟨h.1,?_⟩;rcases h.2 with h2|⟨g,cap,cur,a,b,c⟩;·exact .inl h2
 ·exact .inr ⟨g,cap,cur,a,Nat.le_trans hB b,c⟩
theorem drop_ne_nil{s:ByteArray}{pos}(h:pos<s.size):s.data.toList.drop pos≠[]:=by intro e;have:=congrArg List.length e;rw[List.length_drop,Array.length_toList]at this;simp only[List.length_nil]at this;have e2:s.data.size=s.size:=rfl;omega
theorem gDecode_any s  w (hs:s.size≤17592186044416):
 Calls prog 182 #[.string s] w fun e w'=>∃v,e=.returned v∧w'.ownsRow w.heap.size 3 1 v (runes s.data.toList).length ((runes s.data.toList).map (Value.int .i64))∧Below w.heap.size w w':=by
 obtain⟨i0,hi,hz0,hz1,hz2⟩:=info_parts info3;go_enter func182,ntmps182;go_wp2;go_loopw[3] (fun v wr=>∃(pos:Nat) (acc:List Int),wr.ownsRow (w.heap.size+1) 3 1 v acc.length (acc.map (Value.int .i64))∧wr.heap[w.heap.size]?=some (.stringIter s pos)∧Below w.heap.size w wr∧acc++runes (s.data.toList.drop pos)=runes s.data.toList∧acc.length≤pos) (fun _ wr=>s.size-wr.iterPos w.heap.size);case atStart=>refine⟨0,[],World.ownsRow_nil _ _ _ _,?_,(Below.refl _ w).alloc (Nat.le_refl _) _,rfl,Nat.le_refl _⟩;have:=World.iter_heap w s 0;simpa using this
 case round=>
  obtain⟨pos,acc,hown,hit,hbw,hacc,hal⟩:=hrel;have hsz:=(Array.getElem?_eq_some_iff.1 hit).1;by_cases hp:pos<s.size
  ·obtain⟨r,n,hd⟩:∃r n,Utf8.decode s pos=(r,n):=⟨_,_,rfl⟩;have hnx:∀ty,(Instr.next (Pq w.heap.size) true ty).run prog wr=.ok (.tuple #[.bool true,Iq pos,.int .i32 r]) (wr.iterAt w.heap.size s (pos+n)):=fun ty=>by have:=Lib.run_next_any_at (P:=prog) wr w.heap.size s pos ty hit hp;rw[hd]at this;exact this
   have hdd:dec (s.data.toList.drop pos)=(r,n):=by rw[<-decode_dec,hd]
   have hn1:1≤n:=by have:=dec_pos (s.data.toList.drop pos);rw[hdd]at this;exact this
   have hr1:r≤2147483647:=by have:=dec_val_le (s.data.toList.drop pos);rw[hdd]at this;exact this
   have hy:=shownI_bd (r:=(r:Int)) (by omega) (by omega);have HR:Hid ((acc++[shownI r])++runes (s.data.toList.drop (pos+n))=runes s.data.toList):=by show _=_;rw[<-hacc,runes_step (drop_ne_nil hp),hdd,List.drop_drop];simp
   have hit2:=Lib.iterAt_heap wr w.heap.size s pos (pos+n) hit;have hbw2:=Lib.below_iterAt hbw (k:=w.heap.size) (Nat.le_refl _) s (pos+n);have hown2:=ownsRow_iterAt hown (k:=w.heap.size) (by omega) s (pos+n);have hsz2:(wr.iterAt w.heap.size s (pos+n)).heap.size=wr.heap.size:=Lib.iterAt_size _ _ _ _;have HS:=qH<|hsz2;clear hd hdd hacc hown hbw hsz2;go_wp2_with(first
    |(go_at_call 197;refine(shown_any _ _).mono ?_;rintro e w' ⟨rfl,rfl⟩)
    |(at_builtin;refine wpList_append_own _ rfl _ _ 67 rfl (w.heap.size+1) 3 i0 (Iq 0) 1 8 underlying67 hi hz0 hz1 hz2 rfl (by decide) _ _ _ rfl (hown2.alloc _) _ 1 1 [Iq (shownI r)] rfl rfl ?c1 ?c2 ?c3 ?c4 ?c5 ?_));case c1=>exact cell_one_new _ _ _
   case c2=>intro u hu;simp at hu;subst hu;rfl
   case c3=>unfold maxLen;omega
   case c4=>omega
   case c5=>rw[World.size_alloc,HS.out];omega
   intro v' w1 hown' hg _;have hrow:=fun q hq=>(hown2.lt q hq).1;have hb1:=(hbw2.alloc (by rw[HS.out];omega) _).grown hg (by rw[World.size_alloc,HS.out];omega) (fun q hq=>by have:=hrow q hq;omega);have hit3:w1.heap[w.heap.size]?=some (.stringIter s (pos+n)):=by rw[hg.block w.heap.size (by rw[World.size_alloc,HS.out];omega) (fun e=>by have:=hrow _ e.symm;omega)];rw[Below.heap_alloc _ _ _ (by rw[HS.out];omega)];exact hit2
   clear hg hrow hown2 hbw2 hnx hit2;go_wp2;go_roundw;case rel=>refine⟨pos+n,acc++[shownI r],?_,hit3,hb1,HR,by simp;omega⟩;rw[List.length_append,List.map_append];exact hown'
   case measure=>rw[iterPos_of hit3,iterPos_of hit];omega
  ·have hnx:∀ty,(Instr.next (Pq w.heap.size) true ty).run prog wr=_:=fun ty=>Lib.run_next_end_at wr w.heap.size s pos ty hit hp;have he:runes (s.data.toList.drop pos)=[]:=by rw[List.drop_eq_nil_of_le (by rw[Array.length_toList];exact Nat.le_of_not_lt hp),runes_nil]
   rw[he,List.append_nil]at hacc;subst hacc;clear he;go_wp2;go_ret;exact⟨_,rfl,ownsRow_base hown (by omega),hbw⟩
theorem byt_at(s:ByteArray) i  h :byt s.data.toList i=(s[i]'h).toNat:=by have:=get_byt s 0 i;simp only[Nat.zero_add,List.drop_zero]at this;rw[<-this];have e:=get_at s i h;simp only[Nat.add_zero]at e;rw[e]
theorem len_data(s:ByteArray):s.data.toList.length=s.size:=by rw[Array.length_toList];rfl
theorem byt_drop l  i k :byt (l.drop i) k=byt l (i+k):=by unfold byt;rw[List.getD_eq_getElem?_getD,List.getD_eq_getElem?_getD,List.getElem?_drop]
theorem mor_drop l  i k lo hi :mor (l.drop i) k lo hi=mor l (i+k) lo hi:=by unfold mor;rw[byt_drop,decide_eq_decide.2 (show k<(l.drop i).length↔i+k<l.length by rw[List.length_drop];omega)]
theorem more_is s  i lo hi (hi0:0≤i)(hlo:0≤lo)(hlo1:lo≤255)(hhi:0≤hi)(hhi1:hi≤255) b (hb:mor s.data.toList i.toNat lo.toNat hi.toNat=b) w :
 Calls prog 171 #[.string s,Iq i,.int .u8 lo,.int .u8 hi] w fun e w'=>e=.returned (.bool b)∧w'=w:=by
 subst hb;obtain⟨i,rfl⟩:=Int.eq_ofNat_of_zero_le hi0;obtain⟨lo,rfl⟩:=Int.eq_ofNat_of_zero_le hlo;obtain⟨hi,rfl⟩:=Int.eq_ofNat_of_zero_le hhi;simp only[Int.toNat_natCast];by_cases h1:i<s.size
 ·have hb:=byt_at s i h1;by_cases h2:lo≤(s[i]'h1).toNat
  ·have h2':(lo:Int)≤((s[i]'h1).toNat:Int):=by omega
   by_cases h3:(s[i]'h1).toNat≤hi
   ·have h3':((s[i]'h1).toNat:Int)≤(hi:Int):=by omega
    rw[(mor_iff _ _ _ _).2 ⟨by rw[len_data];exact h1,by omega,by omega⟩];clear hb h2 h3;go_enter func171,ntmps171;go_wp2;go_ret;exact⟨rfl,rfl⟩
   ·have h3':¬((s[i]'h1).toNat:Int)≤(hi:Int):=by omega
    rw[(mor_false _ _ _ _).2 (by omega)];clear hb h2 h3;go_enter func171,ntmps171;go_wp2;go_ret;exact⟨rfl,rfl⟩
  ·have h2':¬(lo:Int)≤((s[i]'h1).toNat:Int):=by omega
   rw[(mor_false _ _ _ _).2 (by omega)];clear hb h2;go_enter func171,ntmps171;go_wp2;go_ret;exact⟨rfl,rfl⟩
 ·rw[(mor_false _ _ _ _).2 (by rw[len_data];omega)];have h1':¬(i:Int)<(s.size:Int):=by omega
  clear h1;go_enter func171,ntmps171;go_wp2;go_ret;exact⟨rfl,rfl⟩
/-! What 'sequence' comes to, way by way. -/
theorem seq_ascii{l}(h:byt l 0<0x80):seq l=1:=by simp[seq,h]
theorem seq_out{l}(h0:¬byt l 0<0x80)(h:byt l 0<0xC2∨0xF4<byt l 0):seq l=0:=by simp[seq,h0,h]
theorem seq_first{l}(h0:¬byt l 0<0x80)(hA:¬(byt l 0<0xC2∨0xF4<byt l 0))(h:mor l 1 (seqLo (byt l 0)) (seqHi (byt l 0))=false):seq l=0:=by unfold seq;rw[if_neg h0,if_neg hA,if_pos h]
theorem seq_next{l}(h0:¬byt l 0<0x80)(hA:¬(byt l 0<0xC2∨0xF4<byt l 0)) k (hk:2≤k)(hn:k<seqN (byt l 0))(h:mor l k 0x80 0xBF=false):seq l=0:=by
 have nb:=n_bd (byt l 0);unfold seq;rw[if_neg h0,if_neg hA];by_cases a:mor l 1 (seqLo (byt l 0)) (seqHi (byt l 0))=false;·rw[if_pos a]
 ·rw[if_neg a];obtain rfl|rfl:k=2∨k=3:=by omega
  ·rw[if_pos ⟨by omega,h⟩]
  ·by_cases b:2<seqN (byt l 0)∧mor l 2 0x80 0xBF=false;·rw[if_pos b]
   ·rw[if_neg b,if_pos ⟨by omega,h⟩]
theorem seq_yes{l}(h0:¬byt l 0<0x80)(hA:¬(byt l 0<0xC2∨0xF4<byt l 0))(h:mor l 1 (seqLo (byt l 0)) (seqHi (byt l 0))=true)(hm:∀k,2≤k->k<seqN (byt l 0)->mor l k 0x80 0xBF=true):seq l=seqN (byt l 0):=by
 unfold seq;rw[if_neg h0,if_neg hA,if_neg (by rw[h];simp)];rw[if_neg,if_neg];·rintro⟨a,b⟩;rw[hm 3 (by omega) a]at b;cases b
 ·rintro⟨a,b⟩;rw[hm 2 (by omega) a]at b;cases b
def SqC(c:Nat)(x0 x1 x2 x3 x4 x5:Bool)(lo hi:Nat)(n:Int):Prop:=(((c:Int)==224)=x0∧((c:Int)==237)=x1∧((c:Int)==240)=x2∧((c:Int)==244)=x3)∧(decide ((224:Int)≤c)=x4∧decide ((240:Int)≤c)=x5)∧seqLo c=lo∧seqHi c=hi∧(seqN c:Int)=n
theorem sq_cases c :SqC c false false false false false false 128 191 2∨SqC c true false false false true false 160 191 3∨SqC c false false false false true false 128 191 3∨SqC c false true false false true false 128 159 3∨SqC c false false true false true true 144 191 4∨SqC c false false false false true true 128 191 4∨SqC c false false false true true true 128 143 4:=by
 have x:=lo_bd c;have y:=hi_bd c;have z:=n_bd c;have cl:c<0xE0∨c=0xE0∨(0xE0<c∧c<0xF0∧c≠0xED)∨c=0xED∨c=0xF0∨(0xF0<c∧c≠0xF4)∨c=0xF4:=by omega
 rcases cl with h|h|h|h|h|h|h;·exact .inl ⟨by simp;omega,by simp;omega,by omega,by omega,by omega⟩
 ·exact .inr (.inl ⟨by simp;omega,by simp;omega,by omega,by omega,by omega⟩)
 ·exact .inr (.inr (.inl ⟨by simp;omega,by simp;omega,by omega,by omega,by omega⟩))
 ·exact .inr (.inr (.inr (.inl ⟨by simp;omega,by simp;omega,by omega,by omega,by omega⟩)))
 ·exact .inr (.inr (.inr (.inr (.inl ⟨by simp;omega,by simp;omega,by omega,by omega,by omega⟩))))
 ·exact .inr (.inr (.inr (.inr (.inr (.inl ⟨by simp;omega,by simp;omega,by omega,by omega,by omega⟩)))))
 ·exact .inr (.inr (.inr (.inr (.inr (.inr ⟨by simp;omega,by simp;omega,by omega,by omega,by omega⟩)))))
theorem sequence_in s (i:Nat) h (hs:s.size≤70368744177664) w (h0:¬(s[i]'h).toNat<0x80)(hA:¬((s[i]'h).toNat<0xC2∨0xF4<(s[i]'h).toNat)):
 Calls prog 142 #[.string s,Iq i] w fun e w'=>e=.returned (Iq (seq (s.data.toList.drop i)))∧w'=w:=by
 have hb0:byt (s.data.toList.drop i) 0=(s[i]'h).toNat:=by rw[byt_drop];exact byt_at s i h
 have H0:Hid (¬byt (s.data.toList.drop i) 0<0x80):=by rw[hb0];exact h0
 have HA:Hid (¬(byt (s.data.toList.drop i) 0<0xC2∨0xF4<byt (s.data.toList.drop i) 0)):=by rw[hb0];exact hA
 have HB:=qH<|hb0;have q0:¬((s[i]'h).toNat:Int)<128:=by omega
 have q1:¬((s[i]'h).toNat:Int)<194:=by omega
 have q2:¬(244:Int)<((s[i]'h).toNat:Int):=by omega
 have E1:Hid (((i:Int)+1).toNat=i+1):=by show _=_;omega
 have D:=sq_cases (s[i]'h).toNat;clear hb0 h0 hA;obtain⟨M,HM⟩:∃b,Hid (mor s.data.toList (i+1) (seqLo (s[i]'h).toNat) (seqHi (s[i]'h).toNat)=b):=⟨_,rfl⟩;cases M;·have HF:Hid (seq (s.data.toList.drop i)=0):=seq_first H0 HA (by rw[HB.out,mor_drop];exact HM);rcases D with D|D|D|D|D|D|D;all_goals obtain⟨⟨t0,t1,t2,t3⟩,⟨t4,t5⟩,l1,l2,_⟩:=D;rw[l1,l2]at HM;clear l1 l2;go_enter func142,ntmps142;go_wp2_with(go_at_call 171;refine(more_is s _ _ _ (by omega) (by omega) (by omega) (by omega) (by omega) false (by rw[E1.out];exact HM) _).mono ?_;rintro e w' ⟨rfl,rfl⟩);go_ret;rw[HF.out];exact⟨rfl,rfl⟩
 ·have HY:Hid ((∀j,2≤j->j<seqN (s[i]'h).toNat->mor s.data.toList (i+j) 0x80 0xBF=true)->seq (s.data.toList.drop i)=seqN (s[i]'h).toNat):=fun hm=>by rw[seq_yes H0.out HA.out (by rw[HB.out,mor_drop];exact HM) (fun j a b=>by rw[mor_drop];exact hm j a (by rw[<-HB.out];exact b)),HB.out]
  rcases D with D|D|D|D|D|D|D;all_goals
   obtain⟨⟨t0,t1,t2,t3⟩,⟨t4,t5⟩,l1,l2,l3⟩:=D;rw[l1,l2]at HM;clear l1 l2;generalize hN:seqN (s[i]'h).toNat=N at l3 HY;have HN:=qH<|hN;clear hN;go_enter func142,ntmps142;go_wp2_with(go_at_call 171;refine(more_is s _ _ _ (by omega) (by omega) (by omega) (by omega) (by omega) true (by rw[E1.out];exact HM) _).mono ?_;rintro e w' ⟨rfl,rfl⟩);go_loop[10] (fun t=>∃k:Nat,2≤k∧k≤N∧t=Iq k∧Hid (∀j,2≤j->j<k->mor s.data.toList (i+j) 0x80 0xBF=true)) (fun t=>N-(intOf t).toNat);case atStart=>exact⟨2,Nat.le_refl _,by omega,rfl,fun j a b=>by omega⟩
   case round=>
    obtain⟨k,hk2,hkn,rfl,hm⟩:=hrel;by_cases hlt:k<N
    ·have hlt':(k:Int)<(N:Int):=by omega
     have ek:Hid (((i:Int)+(k:Int)).toNat=i+k):=by show _=_;omega
     have hN4:N≤4:=by omega
     rw[l3]at hlt';obtain⟨M2,HM2⟩:∃b,Hid (mor s.data.toList (i+k) 0x80 0xBF=b):=⟨_,rfl⟩;cases M2;·go_wp2_with(go_at_call 171;refine(more_is s _ _ _ (by omega) (by omega) (by omega) (by omega) (by omega) false (by rw[ek.out];exact HM2) _).mono ?_;rintro e w' ⟨rfl,rfl⟩);go_ret;rw[seq_next H0.out HA.out k hk2 (by rw[HB.out,HN.out];exact hlt) (by rw[mor_drop];exact HM2)];exact⟨rfl,rfl⟩
     ·go_wp2_with(go_at_call 171;refine(more_is s _ _ _ (by omega) (by omega) (by omega) (by omega) (by omega) true (by rw[ek.out];exact HM2) _).mono ?_;rintro e w' ⟨rfl,rfl⟩);go_round;case rel=>
       refine⟨k+1,by omega,by omega,by go_num,fun j a b=>?_⟩;by_cases ej:j=k;·subst ej;exact HM2
       ·exact hm j a (by omega)
      case measure=>simp[intOf];omega
    ·have hlt':¬(k:Int)<(N:Int):=by omega
     rw[l3]at hlt';obtain rfl:k=N:=by omega
     have HZ:=qH<|HY hm;have HL:=qH<|l3;clear hlt hk2 hkn l3;go_wp2;go_ret;exact⟨by rw[HZ.out,HL.out];rfl,rfl⟩
theorem sequence_any(s:ByteArray) i (h:i<s.size)(hs:s.size≤70368744177664) w :
 Calls prog 142 #[.string s,Iq i] w fun e w'=>e=.returned (Iq (seq (s.data.toList.drop i)))∧w'=w:=by
 have hb0:byt (s.data.toList.drop i) 0=(s[i]'h).toNat:=by rw[byt_drop];exact byt_at s i h
 by_cases h0:(s[i]'h).toNat<0x80
 ·rw[seq_ascii (by rw[hb0];exact h0)];have q0:((s[i]'h).toNat:Int)<128:=by omega
  clear hb0 h0;go_enter func142,ntmps142;go_wp2;go_ret;exact⟨rfl,rfl⟩
 ·by_cases hA:(s[i]'h).toNat<0xC2∨0xF4<(s[i]'h).toNat
  ·rw[seq_out (by rw[hb0];exact h0) (by rw[hb0];exact hA)];have q0:¬((s[i]'h).toNat:Int)<128:=by omega
   by_cases hl:(s[i]'h).toNat<0xC2
   ·have q1:((s[i]'h).toNat:Int)<194:=by omega
    clear hb0 h0 hA hl;go_enter func142,ntmps142;go_wp2;go_ret;exact⟨rfl,rfl⟩
   ·have q1:¬((s[i]'h).toNat:Int)<194:=by omega
    have q2:(244:Int)<((s[i]'h).toNat:Int):=by omega
    clear hb0 h0 hA hl;go_enter func142,ntmps142;go_wp2;go_ret;exact⟨rfl,rfl⟩
  ·exact sequence_in s i h hs w h0 hA
theorem and31:∀c:Fin 256,bits .and .i64 ((c.val:Nat):Int) 31=((c.val %32:Nat):Int):=by decide+kernel
theorem and15:∀c:Fin 256,bits .and .i64 ((c.val:Nat):Int) 15=((c.val %16:Nat):Int):=by decide+kernel
theorem and7:∀c:Fin 256,bits .and .i64 ((c.val:Nat):Int) 7=((c.val %8:Nat):Int):=by decide+kernel
theorem and63:∀c:Fin 256,bits .and .u8 ((c.val:Nat):Int) 63=((c.val %64:Nat):Int):=by decide+kernel
def rpart(l:List UInt8)(m:Nat):Nat->Nat
 |0=>m
 |j+1=>rpart l m j*64+byt l (j+1) %64
theorem rpart_le l  m (hm:m<256) j (hj:j≤3):rpart l m j<67108864:=by
 have h1:rpart l m 0=m:=rfl;have h2:rpart l m 1=m*64+byt l 1 %64:=rfl;have h3:rpart l m 2=(m*64+byt l 1 %64)*64+byt l 2 %64:=rfl;have h4:rpart l m 3=((m*64+byt l 1 %64)*64+byt l 2 %64)*64+byt l 3 %64:=rfl;obtain rfl|rfl|rfl|rfl:j=0∨j=1∨j=2∨j=3:=by omega
 all_goals omega
theorem rpart_val l  n m (hn:n=1∧m=byt l 0∨n=2∧m=byt l 0 %32∨n=3∧m=byt l 0 %16∨n=4∧m=byt l 0 %8):rpart l m (n-1)=val l n:=by
 rcases hn with⟨rfl,rfl⟩|⟨rfl,rfl⟩|⟨rfl,rfl⟩|⟨rfl,rfl⟩;·rfl
 ·rfl
 ·show(byt l 0 %16*64+byt l 1 %64)*64+byt l 2 %64=byt l 0 %16*4096+(byt l 1 %64)*64+byt l 2 %64;omega
 ·show((byt l 0 %8*64+byt l 1 %64)*64+byt l 2 %64)*64+byt l 3 %64=byt l 0 %8*262144+(byt l 1 %64)*4096+(byt l 2 %64)*64+byt l 3 %64;omega
theorem seq_within l (hl:l≠[]):seq l≤l.length:=by
 have h1:=List.length_pos_iff.2 hl;have nb:=n_bd (byt l 0);unfold seq;by_cases a:byt l 0<0x80;·rw[if_pos a];omega
 ·rw[if_neg a];by_cases b:byt l 0<0xC2∨0xF4<byt l 0;·rw[if_pos b];omega
  ·rw[if_neg b];by_cases m1:mor l 1 (seqLo (byt l 0)) (seqHi (byt l 0))=false;·rw[if_pos m1];omega
   ·rw[if_neg m1];have k1:=((mor_iff _ _ _ _).1 (by simpa using m1)).1;by_cases m2:2<seqN (byt l 0)∧mor l 2 0x80 0xBF=false;·rw[if_pos m2];omega
    ·rw[if_neg m2];by_cases m3:3<seqN (byt l 0)∧mor l 3 0x80 0xBF=false;·rw[if_pos m3];omega
     ·rw[if_neg m3];have k2:=fun q=>((mor_iff _ _ _ _).1 (by cases h:mor l 2 0x80 0xBF;exact absurd ⟨q,h⟩ m2;rfl)).1;have k3:=fun q=>((mor_iff _ _ _ _).1 (by cases h:mor l 3 0x80 0xBF;exact absurd ⟨q,h⟩ m3;rfl)).1;omega
theorem step_bad{s:ByteArray}{pos}{acc}(hp:pos<s.size)(h:acc++runes (s.data.toList.drop pos)=runes s.data.toList)(hq:seq (s.data.toList.drop pos)=0):
 (acc++[65533])++runes (s.data.toList.drop (pos+1))=runes s.data.toList:=by
 have hdd:dec (s.data.toList.drop pos)=(65533,1):=by rw[dec_seq,if_pos hq]
 rw[<-h,runes_step (drop_ne_nil hp),hdd,List.drop_drop];simp[shownI]
theorem step_good{s:ByteArray}{pos}{acc}(hp:pos<s.size)(h:acc++runes (s.data.toList.drop pos)=runes s.data.toList) n (hq:seq (s.data.toList.drop pos)=n)(hn:n≠0):
 (acc++[shownI (val (s.data.toList.drop pos) n)])++runes (s.data.toList.drop (pos+n))=runes s.data.toList:=by
 have hdd:dec (s.data.toList.drop pos)=(val (s.data.toList.drop pos) n,n):=by rw[dec_seq,if_neg (by rw[hq];exact hn),hq]
 rw[<-h,runes_step (drop_ne_nil hp),hdd,List.drop_drop];simp
theorem rDecode_any s  w (hs:s.size≤17592186044416):
 Calls prog 87 #[.string s] w fun e w'=>∃v,e=.returned v∧w'.ownsRow w.heap.size 3 1 v (runes s.data.toList).length ((runes s.data.toList).map (Value.int .i64))∧Below w.heap.size w w':=by
 obtain⟨i0,hi,hz0,hz1,hz2⟩:=info_parts info3;go_enter func87,ntmps87;go_wp2;go_loopw[3,4] (fun v i wr=>∃(pos:Nat) (acc:List Int),i=Iq pos∧pos≤s.size∧wr.ownsRow w.heap.size 3 1 v acc.length (acc.map (Value.int .i64))∧Below w.heap.size w wr∧acc++runes (s.data.toList.drop pos)=runes s.data.toList∧acc.length≤pos) (fun _ i _=>s.size-(intOf i).toNat);case atStart=>exact⟨0,[],rfl,Nat.zero_le _,World.ownsRow_nil _ _ _ _,Below.refl _ _,rfl,Nat.le_refl _⟩
 case round=>
  obtain⟨pos,acc,rfl,hps,hown,hbw,hacc,hal⟩:=hrel;have hsz:=hbw.size;by_cases hp:pos<s.size
  ·have hlt':(pos:Int)<(s.size:Int):=by omega
   have hsw:=seq_within _ (drop_ne_nil hp);rw[List.length_drop,len_data]at hsw;have hs4:=seq_le (s.data.toList.drop pos);obtain⟨n,hn⟩:=nmd (seq (s.data.toList.drop pos));rw[hn]at hsw hs4;have hcall:=sequence_any s pos hp (by omega);rw[hn]at hcall;have HCALL:=qH<|hcall;clear hcall;have hb0:byt (s.data.toList.drop pos) 0=(s[pos]'hp).toNat:=by rw[byt_drop];exact byt_at s pos hp
   have HB:=qH<|hb0;have hc256:=byt_lt (s.data.toList.drop pos) 0;rw[hb0]at hc256;clear hb0;by_cases h0:n=0
   ·have HR:=qH<|step_bad hp hacc (by rw[hn];exact h0);subst h0;clear hacc hn hsw hs4 HB hc256;go_wp2_with(first|(go_at_call 142;refine(HCALL _).mono ?_;rintro e w' ⟨rfl,rfl⟩)|(at_builtin;refine ap1 hi hz0 hz1 hz2 hown hbw [Iq 65533] rfl _ _ rfl underlying67 ⟨rfl,by decide,by decide⟩ rfl rfl ⟨rfl,rfl⟩ (by omega) ?_));intro v' w1 hown' hb1;clear hown hbw;go_wp2;go_roundw;case rel=>refine⟨pos+1,acc++[65533],by go_num,by omega,?_,hb1,HR,by simp;omega⟩;rw[List.length_append,List.map_append];exact hown'
    case measure=>simp[intOf];omega
   ·have HR:=qH<|step_good hp hacc n hn h0;clear hacc hn;obtain⟨m,hm,hmv⟩:∃m:Nat,m<256∧(n=1∧m=(s[pos]'hp).toNat∨n=2∧m=(s[pos]'hp).toNat %32∨n=3∧m=(s[pos]'hp).toNat %16∨n=4∧m=(s[pos]'hp).toNat %8):=by
     obtain h|h|h|h:n=1∨n=2∨n=3∨n=4:=by omega
     ·exact⟨(s[pos]'hp).toNat,by omega,.inl ⟨h,rfl⟩⟩
     ·exact⟨(s[pos]'hp).toNat %32,by omega,.inr (.inl ⟨h,rfl⟩)⟩
     ·exact⟨(s[pos]'hp).toNat %16,by omega,.inr (.inr (.inl ⟨h,rfl⟩))⟩
     ·exact⟨(s[pos]'hp).toNat %8,by omega,.inr (.inr (.inr ⟨h,rfl⟩))⟩
    have HV:=qH<|rpart_val _ n m (by rw[HB.out];exact hmv);obtain⟨L,hL⟩:=nmd (s.data.toList.drop pos);have HBy:Hid (∀j (h:pos+j<s.size),byt L j=(s[pos+j]'h).toNat):=by intro j h;rw[<-hL,byt_drop];exact byt_at s (pos+j) h
    rw[hL]at HR HV HB;have a31:=and31 ⟨(s[pos]'hp).toNat,hc256⟩;have a15:=and15 ⟨(s[pos]'hp).toNat,hc256⟩;have a7:=and7 ⟨(s[pos]'hp).toNat,hc256⟩;clear hL HB;have e0:((n:Int)==0)=false:=by simp;exact h0
    have hcs:(((n:Int)==2)=false∧((n:Int)==3)=false∧((n:Int)==4)=false∧m=(s[pos]'hp).toNat)∨(((n:Int)==2)=true∧((n:Int)==3)=false∧((n:Int)==4)=false∧m=(s[pos]'hp).toNat %32)∨(((n:Int)==2)=false∧((n:Int)==3)=true∧((n:Int)==4)=false∧m=(s[pos]'hp).toNat %16)∨(((n:Int)==2)=false∧((n:Int)==3)=false∧((n:Int)==4)=true∧m=(s[pos]'hp).toNat %8):=by
     rcases hmv with⟨rfl,h⟩|⟨rfl,h⟩|⟨rfl,h⟩|⟨rfl,h⟩;·exact .inl ⟨rfl,rfl,rfl,h⟩
     ·exact .inr (.inl ⟨rfl,rfl,rfl,h⟩)
     ·exact .inr (.inr (.inl ⟨rfl,rfl,rfl,h⟩))
     ·exact .inr (.inr (.inr ⟨rfl,rfl,rfl,h⟩))
    clear hmv;rcases hcs with⟨e2,e3,e4,hmm⟩|⟨e2,e3,e4,hmm⟩|⟨e2,e3,e4,hmm⟩|⟨e2,e3,e4,hmm⟩;all_goals
     have HMM:=qH<|hmm;clear hmm;go_wp2_with(go_at_call 142;refine(HCALL _).mono ?_;rintro e w' ⟨rfl,rfl⟩);go_loop[6,7] (fun r k=>∃j:Nat,j+1≤n∧k=Iq (j+1:Nat)∧r=Iq (rpart L m j)) (fun _ k=>n-(intOf k).toNat);case atStart=>exact⟨0,by omega,rfl,by rw[show rpart L m 0=m from rfl,HMM.out];try simp⟩
     case round=>
      obtain⟨j,hj,rfl,rfl⟩:=hrel;have hpl:=rpart_le L m hm j (by omega);by_cases hjn:j+1<n
      ·have hjn':((j+1:Nat):Int)<(n:Int):=by omega
       have hpj:pos+(j+1)<s.size:=by omega
       have hbj:=HBy (j+1) hpj;have h256:=byt_lt L (j+1);rw[hbj]at h256;have a63:=and63 ⟨(s[pos+(j+1)]'hpj).toNat,h256⟩;have HST:Hid (rpart L m (j+1)=rpart L m j*64+(s[pos+(j+1)]'hpj).toNat %64):=by show _=_;rw[<-hbj];rfl
       clear hbj a31 a15 a7;go_wp2;go_round;case rel=>exact⟨j+1,by omega,by go_num,by rw[HST.out];go_num⟩
       case measure=>simp[intOf];omega
      ·have hjn':¬((j+1:Nat):Int)<(n:Int):=by omega
       obtain⟨V,hV⟩:=nmd (rpart L m j);have HV2:Hid (V=val L n):=by show _=_;rw[<-hV,show j=n-1 by omega];exact HV
       rw[hV]at hpl⊢;obtain⟨x,HR2,hx⟩:∃x:Int,Hid ((acc++[x])++runes (s.data.toList.drop (pos+n))=runes s.data.toList)∧(((V:Int)<32∧((V:Int)!=10)=true∧x=65533)∨(((V:Int)<32∧¬127≤(V:Int))∧((V:Int)!=10)=false∧x=V)∨((¬(V:Int)<32∧127≤(V:Int))∧(V:Int)≤159∧x=65533)∨((¬(V:Int)<32∧127≤(V:Int))∧¬(V:Int)≤159∧x=V)∨(¬(V:Int)<32∧¬127≤(V:Int)∧x=V)):=by
        refine⟨shownI V,by have:=HR.out;rw[<-HV2.out]at this;exact this,?_⟩;unfold shownI;by_cases q:((V:Int)<32∧(V:Int)≠10)∨(127≤(V:Int)∧(V:Int)≤159)
        ·rw[if_pos q];rcases q with⟨q1,q2⟩|q;·exact .inl ⟨q1,by simpa using q2,rfl⟩
         ·exact .inr (.inr (.inl ⟨by omega,q.2,rfl⟩))
        ·rw[if_neg q];by_cases q1:(V:Int)<32;·exact .inr (.inl ⟨by omega,by simp;omega,rfl⟩)
         ·by_cases q3:127≤(V:Int);·exact .inr (.inr (.inr (.inl ⟨⟨q1,q3⟩,by omega,rfl⟩)))
          ·exact .inr (.inr (.inr (.inr ⟨q1,q3,rfl⟩)))
       clear hV HV hjn a31 a15 a7 HR;rcases hx with⟨f1,f2,rfl⟩|⟨⟨f1,f3⟩,f2,rfl⟩|⟨⟨f1,f3⟩,f2,rfl⟩|⟨⟨f1,f3⟩,f2,rfl⟩|⟨f1,f2,rfl⟩;all_goals
        go_wp2_with(at_builtin;first|refine ap1 hi hz0 hz1 hz2 hown hbw [Iq 65533] rfl _ _ rfl underlying67 ⟨rfl,by decide,by decide⟩ rfl rfl ⟨rfl,rfl⟩ (by omega) ?_|refine ap1 hi hz0 hz1 hz2 hown hbw [Iq (V:Int)] rfl _ _ rfl underlying67 ⟨rfl,by decide,by decide⟩ rfl rfl ⟨rfl,rfl⟩ (by omega) ?_);intro v' w1 hown' hb1;clear hown hbw;go_wp2;go_roundw;case rel=>refine⟨pos+n,acc++[_],by go_num,by omega,?_,hb1,HR2,by simp;omega⟩;rw[List.length_append,List.map_append];exact hown'
        case measure=>simp[intOf];omega
  ·have hlt':¬(pos:Int)<(s.size:Int):=by omega
   have he:runes (s.data.toList.drop pos)=[]:=by rw[List.drop_eq_nil_of_le (by rw[Array.length_toList];exact Nat.le_of_not_lt hp),runes_nil]
   rw[he,List.append_nil]at hacc;subst hacc;clear he;go_wp2;go_ret;exact⟨_,rfl,hown,hbw⟩
theorem conv_new(xs:List Int)(hx:∀x∈xs,0≤x∧x<256)(w:World):
 (convert 151 9 (Sq w.heap.size xs.length xs.length)).run prog (w.alloc (.cells (xs.map (Value.int .u8)).toArray 5))=
  .ok (.string ⟨(xs.map fun x=>x.toNat.toUInt8).toArray⟩) (w.alloc (.cells (xs.map (Value.int .u8)).toArray 5)):=by
 have h:=run_convert_bytes_back (P:=prog) (w.alloc (.cells (xs.map (Value.int .u8)).toArray 5)) 151 9 5 ⟨w.heap.size,0,none⟩ xs.length (xs.map fun x=>x.toNat.toUInt8) underlying151 underlying5 underlying9 (by
  intro j hj;simp only[List.length_map]at hj;have e:(⟨w.heap.size,0,none⟩:Addr).add j=⟨w.heap.size,j,none⟩:=by unfold Addr.add;split<;>simp_all
  rw[e,World.cell?_alloc_mark];have hb:=hx xs[j] (List.getElem_mem hj);simp[hj];omega);simpa using h
theorem conv1 a (ha:0≤a∧a<256)(w:World):
 (convert 151 9 (Sq w.heap.size 1 1)).run prog (w.alloc (.cells #[.int .u8 a] 5))=.ok (.string ⟨#[a.toNat.toUInt8]⟩) (w.alloc (.cells #[.int .u8 a] 5)):=
 conv_new [a] (by simpa using ha) w
theorem conv2 a b (ha:0≤a∧a<256)(hb:0≤b∧b<256)(w:World):
 (convert 151 9 (Sq w.heap.size 2 2)).run prog (w.alloc (.cells #[.int .u8 a,.int .u8 b] 5))=.ok (.string ⟨#[a.toNat.toUInt8,b.toNat.toUInt8]⟩) (w.alloc (.cells #[.int .u8 a,.int .u8 b] 5)):=
 conv_new [a,b] (by simp;exact⟨ha,hb⟩) w
theorem conv3 a b c (ha:0≤a∧a<256)(hb:0≤b∧b<256)(hc:0≤c∧c<256)(w:World):
 (convert 151 9 (Sq w.heap.size 3 3)).run prog (w.alloc (.cells #[.int .u8 a,.int .u8 b,.int .u8 c] 5))=.ok (.string ⟨#[a.toNat.toUInt8,b.toNat.toUInt8,c.toNat.toUInt8]⟩) (w.alloc (.cells #[.int .u8 a,.int .u8 b,.int .u8 c] 5)):=
 conv_new [a,b,c] (by simp;exact⟨ha,hb,hc⟩) w
theorem conv4 a b c d (ha:0≤a∧a<256)(hb:0≤b∧b<256)(hc:0≤c∧c<256)(hd:0≤d∧d<256)(w:World):
 (convert 151 9 (Sq w.heap.size 4 4)).run prog (w.alloc (.cells #[.int .u8 a,.int .u8 b,.int .u8 c,.int .u8 d] 5))=.ok (.string ⟨#[a.toNat.toUInt8,b.toNat.toUInt8,c.toNat.toUInt8,d.toNat.toUInt8]⟩) (w.alloc (.cells #[.int .u8 a,.int .u8 b,.int .u8 c,.int .u8 d] 5)):=
 conv_new [a,b,c,d] (by simp;exact⟨ha,hb,hc,hd⟩) w
theorem written_one r (h0:0≤r)(h1:r≤127) w :
 Calls prog 89 #[Iq r] w fun e w'=>e=.returned (.string ⟨(Lib.encodeRune r).toArray⟩)∧∃o,w'=w.alloc o:=by
 have he:Hid (Lib.encodeRune r=[r.toNat.toUInt8]):=by show _=_;unfold Lib.encodeRune;rw[Lib.encodeRuneZ_one h0 h1];rfl
 have hk:=conv1 r (by omega) w;go_enter func89,ntmps89;go_wp2;go_ret;rw[he.out];exact⟨rfl,_,rfl⟩
theorem written_two r (h0:128≤r)(h1:r≤2047) w :
 Calls prog 89 #[Iq r] w fun e w'=>e=.returned (.string ⟨(Lib.encodeRune r).toArray⟩)∧∃o,w'=w.alloc o:=by
 have he:Hid (Lib.encodeRune r=[(192+r/64).toNat.toUInt8,(128+r %64).toNat.toUInt8]):=by show _=_;unfold Lib.encodeRune;rw[Lib.encodeRuneZ_two h0 h1];rfl
 have hk:=conv2 (192+r/64) (128+r %64) (by omega) (by omega) w;go_enter func89,ntmps89;go_wp2;go_ret;rw[he.out];exact⟨rfl,_,rfl⟩
theorem written_three r (h0:(2048≤r∧r<55296)∨(57343<r∧r≤65535)) w :
 Calls prog 89 #[Iq r] w fun e w'=>e=.returned (.string ⟨(Lib.encodeRune r).toArray⟩)∧∃o,w'=w.alloc o:=by
 have he:Hid (Lib.encodeRune r=[(224+r/4096).toNat.toUInt8,(128+r/64 %64).toNat.toUInt8,(128+r %64).toNat.toUInt8]):=by show _=_;unfold Lib.encodeRune;rw[Lib.encodeRuneZ_three h0];rfl
 have hk:=conv3 (224+r/4096) (128+r/64 %64) (128+r %64) (by omega) (by omega) (by omega) w;rcases h0 with⟨h0,h1⟩|⟨h0,h1⟩;all_goals go_enter func89,ntmps89;go_wp2;go_ret;rw[he.out];exact⟨rfl,_,rfl⟩
theorem written_four r (h0:65536≤r)(h1:r≤1114111) w :
 Calls prog 89 #[Iq r] w fun e w'=>e=.returned (.string ⟨(Lib.encodeRune r).toArray⟩)∧∃o,w'=w.alloc o:=by
 have he:Hid (Lib.encodeRune r=[(240+r/262144).toNat.toUInt8,(128+r/4096 %64).toNat.toUInt8,(128+r/64 %64).toNat.toUInt8,(128+r %64).toNat.toUInt8]):=by show _=_;unfold Lib.encodeRune;rw[Lib.encodeRuneZ_four h0 h1];rfl
 have hk:=conv4 (240+r/262144) (128+r/4096 %64) (128+r/64 %64) (128+r %64) (by omega) (by omega) (by omega) (by omega) w;go_enter func89,ntmps89;go_wp2;go_ret;rw[he.out];exact⟨rfl,_,rfl⟩
theorem written_bad r (h:r<0∨(55296≤r∧r≤57343)∨1114111<r) w :
 Calls prog 89 #[Iq r] w fun e w'=>e=.returned (.string ⟨(Lib.encodeRune r).toArray⟩)∧∃o,w'=w.alloc o:=by
 have he:Hid (Lib.encodeRune r=[239,191,189]):=by show _=_;unfold Lib.encodeRune;rw[Lib.encodeRuneZ_bad h];rfl
 have hk:=conv3 239 191 189 (by omega) (by omega) (by omega) w;rcases h with h|⟨h,h'⟩|h;all_goals go_enter func89,ntmps89;go_wp2;go_ret;rw[he.out];exact⟨rfl,_,rfl⟩
theorem written_new r  w :
 Calls prog 89 #[Iq r] w fun e w'=>e=.returned (.string ⟨(Lib.encodeRune r).toArray⟩)∧∃o,w'=w.alloc o:=by
 by_cases a:0≤r∧r≤127;·exact written_one r a.1 a.2 w
 by_cases b:128≤r∧r≤2047;·exact written_two r b.1 b.2 w
 by_cases c:(2048≤r∧r<55296)∨(57343<r∧r≤65535);·exact written_three r c w
 by_cases d:65536≤r∧r≤1114111;·exact written_four r d.1 d.2 w
 ·exact written_bad r (by omega) w
theorem written_any r  w :
 Calls prog 89 #[Iq r] w fun e w'=>e=.returned (.string ⟨(Lib.encodeRune r).toArray⟩)∧Below w.heap.size w w':=
 (written_new r w).mono fun e w' q=>⟨q.1,by obtain⟨o,rfl⟩:=q.2;exact(Below.refl _ _).alloc (Nat.le_refl _) _⟩
