import Derived.Test.YtehgehanbnkdiaaGreatDoorProg
import Derived.Below
set_option linter.all false
set_option maxRecDepth 100000
set_option maxHeartbeats 16000000
namespace Go.Proofs.YtehgehanbnkdiaaGreatDoor
abbrev AT:=World
abbrev BY:=ByteArray
abbrev Fd:=Value
abbrev zzb:=Nat->Int
abbrev zzc:=List Int
abbrev zze:=Option Addr
abbrev zzf:=List UInt8
abbrev zzg:=Nat->Int->Int
abbrev zzh:=List Nat
abbrev zzi:=Nat->Addr
abbrev zzj:=Nat->Nat->Int
theorem dg{p:Prop}(h:p:=by omega):p:=h
def pt{p:Prop}(h:p:=by kernel_rfl):p:=h
def rn{p:Prop}(h:p:=by grind):p:=h
def At{p:Prop}(h:p:=by simp):p:=h
open Go.RowKit
theorem Ut{P f a w r R}{Q:World->Prop}(h:Go.Calls P f a w fun e u=>e=r/\Q u)(k:∀u,Q u->R r u):Go.Calls P f a w R:=h.mono fun e u x=>x.1.symm▸k u x.2
abbrev Bq(w u:AT):Prop:=Go.RowKit.Below w.heap.size w u
abbrev Rw(v:Fd):Ending:=.returned v
abbrev Cw(f:FuncId)(a:Array Fd)(w:AT)(Q:Ending->AT->Prop):Prop:=Calls Go.Proofs.Tryz.prog f a w Q
abbrev aq(b o:Nat):Addr:=⟨b,o,none⟩
abbrev ac:=@Go.RowKit.Below.refl
abbrev ad:=@Nat.le_refl
abbrev ag:=@Go.Calls.mono
abbrev ai:=@Go.World.size_alloc
abbrev aj:=@Array.getElem?_eq_some_iff
abbrev aA:=@Nat.le_trans
abbrev zz006:=@Nat.lt_of_lt_of_le
abbrev aM:=@Go.RowKit.Below.heap_setCell
abbrev aN:=@List.length_append
abbrev aP:=@Nat.zero_le
theorem Ok{n}{w:World}:Go.RowKit.Below n w w:=ac n w
theorem No{w:World}{o}:Go.RowKit.Below w.heap.size w (w.alloc o):=(ac _ _).alloc (ad _) _
theorem LE{n:Nat}:n<=n:=ad n
theorem LT{n:Nat}:0<=n:=aP n
abbrev aQ:=@Go.World.cell?_of_block
abbrev bG:=@Go.RowKit.Below.heap_alloc
abbrev b_:=@Nat.zero_add
abbrev cu:=@Go.World.cell?_setCell_other
abbrev cA:=@List.append_assoc
abbrev cL:=@List.length_take
abbrev cV:=@List.length_cons
abbrev da:=@List.getElem?_eq_getElem
abbrev db:=@Int.eq_ofNat_of_zero_le
abbrev dq:=@List.length_drop
abbrev eI:=@List.length_nil
abbrev eJ:=@Nat.mul_comm
abbrev eK:=@Array.length_toList
abbrev eS:=@Go.World.frozen?_setCell
abbrev eT:=@List.take_append_drop
abbrev fx:=@Nat.add_mul
abbrev fy:=@Go.World.cell?_alloc_lt
abbrev fA:=@Int.mul_right_comm
abbrev gw:=@Go.World.ownsRow_nil
abbrev gx:=@List.take_succ_eq_append_getElem
abbrev gy:=@Int.mul_comm
abbrev ic:=@Option.some.inj
abbrev ie:=@Int.le_refl
abbrev ig:=@List.pairwise_append
abbrev ik:=@Nat.mul_le_mul
abbrev im:=@List.take_of_length_le
abbrev io:=@Int.le_trans
abbrev ip:=@Int.mul_nonneg
abbrev iN:=@Nat.mul_le_mul_right
abbrev iO:=@Int.toNat_natCast
abbrev iP:=@List.append_nil
abbrev iQ:=@List.length_pos_iff
abbrev iR:=@List.length_eq_zero_iff
abbrev iS:=@List.size_toArray
abbrev jx:=@ByteArray.ext
abbrev jy:=@Option.map_eq_some_iff
abbrev jA:=@List.mem_append
abbrev jB:=@List.take_length
abbrev jC:=@Int.mul_le_mul_of_nonneg_right
abbrev jD:=@Go.RowKit.Below.drew
abbrev kD:=@List.mem_cons
abbrev kE:=@Go.World.frozen?_of_block
abbrev kF:=@Go.World.cell?_setCell_same
abbrev kG:=@ByteArray.size_append
abbrev kH:=@List.eq_nil_of_length_eq_zero
abbrev kI:=@Int.mul_le_mul
abbrev kJ:=@List.mem_map
abbrev kK:=@List.getElem_mem
abbrev kM:=@List.cons_append
abbrev kN:=@List.mem_of_mem_drop
abbrev mh:=@List.mem_iff_getElem
abbrev mi:=@List.map_append
abbrev nO:=@Go.World.cell?_setCell_same'
abbrev nP:=@List.getElem?_eq_some_iff
abbrev nQ:=@List.mem_of_getElem?
abbrev nR:=@Go.World.block_lt_of_cell?
abbrev nS:=@Int.lt_of_lt_of_le
abbrev nU:=@List.mem_of_mem_take
abbrev nW:=@ByteArray.size_extract
abbrev nX:=@Array.replicate_succ
abbrev nY:=@Array.replicate_zero
abbrev nZ:=@List.push_toArray
abbrev n_:=@List.append_toArray
abbrev od:=@List.nil_append
abbrev qB:=@List.getElem?_set_ne
abbrev qC:=@Nat.add_zero
abbrev qD:=@Bool.false_eq_true
abbrev qE:=@List.length_map
abbrev qG:=@Go.World.ownsRow.alloc
abbrev qI:=@List.getElem?_take
abbrev sK:=@Go.Value.slice.injEq
abbrev sL:=@Array.getElem?_push
abbrev sM:=@Bool.eq_iff_iff
abbrev sN:=@List.nodup_range
abbrev sO:=@List.range_succ
abbrev sP:=@List.getD_eq_getElem?_getD
abbrev sR:=@Go.World.var?_cell
abbrev sS:=@Go.WideShapes.add_plain
abbrev xG:=@List.getElem?_append_right
abbrev xH:=@List.mem_cons_self
abbrev xI:=@Nat.le_of_eq
abbrev xJ:=@Go.Oper.upon_value
abbrev xK:=@List.length_set
abbrev xL:=@List.exists_mem_of_ne_nil
abbrev xM:=@Int.tdiv_eq_ediv_of_nonneg
abbrev xN:=@Bool.and_eq_true
abbrev xO:=@Array.getElem?_eq_getElem
abbrev xP:=@Nat.lt_succ_self
abbrev xQ:=@List.mem_range
abbrev xR:=@List.mem_filter
abbrev Ck:=@List.all_eq_true
abbrev Cl:=@List.mem_cons_of_mem
abbrev Cm:=@List.drop_eq_nil_of_le
abbrev Cn:=@List.getElem?_append_left
abbrev Co:=@List.getElem?_set_self
abbrev Cp:=@Nat.eq_zero_or_pos
abbrev Cq:=@Go.World.frozen?_alloc_old
abbrev Cr:=@Option.getD_some
abbrev Cs:=@List.getElem?_map
abbrev Ct:=@Nat.div_eq_of_lt
abbrev Cu:=@Int.add_mul
abbrev Cx:=@Nat.mod_lt
abbrev Cy:=@Nat.div_lt_of_lt_mul
abbrev Cz:=@Nat.div_add_mod
abbrev CF:=@List.mem_singleton
abbrev CJ:=@Int.emod_nonneg
abbrev CQ:=@Int.ediv_nonneg
abbrev CV:=@Option.some.injEq
abbrev CY:=@List.getElem?_drop
abbrev CZ:=@List.getElem?_cons_zero
abbrev C0:=@Array.getElem?_eq_none
abbrev zz121:=@Nat.lt_trans
abbrev C5:=@List.map_cons
abbrev C6:=@Nat.mul_one
abbrev C7:=@Array.getElem?_push_size
abbrev C8:=@Go.DataW.trod_int
abbrev C9:=@Nat.one_mul
abbrev C_:=@Int.mul_ediv_cancel
abbrev C':=@Nat.le_of_not_lt
abbrev JD:=@List.any_eq_false
abbrev JE:=@Nat.le_mul_of_pos_right
abbrev JF:=@Int.ofNat.inj
abbrev JG:=@List.nodup_append
abbrev JH:=@List.ext_getElem?
abbrev JI:=@List.pairwise_iff_getElem
abbrev JJ:=@List.Perm.refl
abbrev JK:=@List.any_append
abbrev JL:=@Nat.mul_add_div
abbrev JM:=@Int.mul_lt_mul_of_pos_right
abbrev JN:=@Int.emod_lt_of_pos
abbrev JO:=@List.sum_append
abbrev JP:=@List.length_range
abbrev JQ:=@List.pairwise_map
abbrev JR:=@Array.getElem?_toList
abbrev JS:=@Int.toNat_of_nonneg
abbrev JT:=@Array.eq_empty_of_size_eq_zero
abbrev JU:=@List.mem_iff_getElem?
abbrev JV:=@Nat.min_eq_left
abbrev JW:=@Nat.eq_of_mul_eq_mul_right
abbrev JX:=@List.cons_ne_nil
abbrev JY:=@List.mergeSort_perm
abbrev JZ:=@List.pairwise_cons
abbrev J0:=@Go.WideAt.sameKey_eq
abbrev Oa:=@List.drop_eq_getElem_cons
abbrev Ob:=@Int.mul_le_mul_of_nonneg_left
abbrev Oc:=@Int.le_of_mul_le_mul_right
abbrev Od:=@Int.tmod_eq_emod_of_nonneg
def qH{p}(h:p):Hid p:=h
abbrev Iq(x:Int):Fd:=.int .i64 x
abbrev Pq(b:Nat):Fd:=.pointer (some (aq b 0))
abbrev Sq(b n c:Nat):Fd:=.slice (some (aq b 0)) n c
def af{α}(a:α):∃z,a=z:=⟨a,rfl⟩
def xX{α}(a:α):∃z,z=a:=⟨a,rfl⟩
def jR(w:AT)(a:List Fd)b:∀j u,a[j]?=some u->(w.alloc (.cells a.toArray b)).cell? (((aq w.heap.size 0):Addr).add j)=some u:=by
 intro j u h;have e:((aq w.heap.size 0):Addr).add j=(aq w.heap.size (0+j)):=by unfold Addr.add;split<;>simp_all
 simp_all
def Xz{P}{k}{rest}{o}{a}{Q}{W0 w}{e}{i}{z v}{size bytes n}{y}(hi:P.info? e=some i)(K:i.zero=some z)(d:i.size=size)(m:i.bytes=bytes)(c:w.ownsRow W0.heap.size e size v n y)(j:Bq W0 w)b{t C}(p:o.guard=none)s x(F:o.op=.call {callee:=.builtin .append,args:=#[s,x],argTypes:=#[t,t]})(I:P.underlying t=some (.slice e))(f:z.cells.size=size/\0<size/\0<bytes)(H:a.eval s=v)(J:a.eval x=Sq w.heap.size 1 1)(B:b.length=1*size/\(b.all λu=>u.oneCell')=true)(A:(n+1)*bytes<=140737488355328)(h:∀l w',w'.ownsRow W0.heap.size e size l (n+1) (y++b)->Bq W0 w'->wpList P k Q rest (a.put o.dst l) w'):wpList P k Q (o::rest) a (w.alloc (.cells b.toArray C)):=by have r:=j.size;have L:=aA (JE _ f.2.2) A;refine wpList_append_own _ p s x t F W0.heap.size e i z size bytes I hi K d m f.1 f.2.1 v n y H (c.alloc _) (aq w.heap.size 0) 1 1 b J B.1 (jR w b C) (λu hu=>Ck.1 B.2 u hu) (by unfold maxLen;omega) A (by rw[ai];omega) λl w' D E _=>h l w' D ?_;exact(j.alloc r _).grown E (by rw[ai];omega) λq G=>(c.lt q G).1
