import Derived.Test.YtaanagpadfcmlaaGreatDoorProg
import Derived.Below
set_option linter.all false
set_option maxRecDepth 100000
set_option maxHeartbeats 16000000
namespace Go.Proofs.YtaanagpadfcmlaaGreatDoor
theorem dg{p:Prop}(h:p:=by omega):p:=h
theorem ns{p:Prop}(h:p:=by kernel_rfl):p:=h
theorem rd{p:Prop}(h:p:=by grind):p:=h
theorem rn{p:Prop}(h:p:=by simp):p:=h
open Go.RowKit
abbrev Bt(w u:World):Prop:=Go.RowKit.Below w.heap.size w u
abbrev Rw(v:Value):Ending:=.returned v
abbrev Cw(f:FuncId)(a:Array Value)(w:World)(Q:Ending->World->Prop):Prop:=Calls Go.Proofs.Tryz.prog f a w Q
abbrev aj(b o:Nat):Addr:=⟨b,o,none⟩
abbrev ae:=@Nat.le_refl
abbrev af:=@Go.RowKit.Below.refl
abbrev ag:=@Go.Calls.mono
abbrev au:=@Go.World.size_alloc
abbrev aD:=@Array.getElem?_eq_some_iff
abbrev aF:=@Nat.le_trans
abbrev aR:=@Nat.zero_le
abbrev zz007:=@Nat.lt_of_lt_of_le
abbrev aU:=@List.length_append
abbrev aZ:=@Nat.zero_add
abbrev bf:=@Go.World.cell?_of_block
abbrev bK:=@Go.RowKit.Below.heap_setCell
abbrev b_:=@List.length_take
abbrev cK:=@Go.RowKit.Below.heap_alloc
abbrev cL:=@List.length_drop
abbrev cM:=@List.append_assoc
abbrev c_:=@Go.World.cell?_setCell_other
abbrev dI:=@List.getElem?_eq_getElem
abbrev dP:=@List.length_cons
abbrev dZ:=@Array.length_toList
abbrev eI:=@Int.mul_right_comm
abbrev eO:=@Go.World.ownsRow_nil
abbrev eP:=@List.take_of_length_le
abbrev fy:=@List.take_append_drop
abbrev fI:=@Go.World.frozen?_setCell
abbrev fP:=@List.length_nil
abbrev gw:=@Go.World.cell?_alloc_lt
abbrev gx:=@Int.mul_nonneg
abbrev gE:=@List.mem_cons
abbrev gF:=@List.mem_append
abbrev gG:=@List.take_succ_eq_append_getElem
abbrev gH:=@Int.le_trans
abbrev io:=@List.take_length
abbrev iD:=@Int.le_refl
abbrev iE:=@List.getElem_mem
abbrev iF:=@Int.mul_le_mul_of_nonneg_right
abbrev iG:=@Int.mul_comm
abbrev iH:=@List.mem_of_mem_take
abbrev iI:=@List.mem_of_mem_drop
abbrev je:=@List.pairwise_append
abbrev jg:=@List.length_eq_zero_iff
abbrev jh:=@List.size_toArray
abbrev jG:=@Int.toNat_natCast
abbrev jH:=@List.append_nil
abbrev jI:=@List.length_pos_iff
abbrev jJ:=@Nat.mul_le_mul
abbrev jK:=@Go.World.block_lt_of_cell?
abbrev jL:=@List.mem_map
abbrev jM:=@List.range_succ
abbrev kK:=@Option.some.inj
abbrev kM:=@ByteArray.ext
abbrev kN:=@Nat.add_mul
abbrev kO:=@List.eq_nil_of_length_eq_zero
abbrev kP:=@Int.mul_le_mul
abbrev kQ:=@List.map_append
abbrev lP:=@Go.World.cell?_setCell_same'
abbrev lQ:=@List.getElem?_eq_some_iff
abbrev lR:=@Nat.mul_le_mul_right
abbrev lS:=@List.mem_singleton
abbrev lT:=@List.cons_append
abbrev nG:=@Bool.and_eq_true
abbrev nH:=@Go.World.frozen?_of_block
abbrev nJ:=@Option.map_eq_some_iff
abbrev nK:=@Nat.add_zero
abbrev nL:=@Int.lt_of_lt_of_le
abbrev nM:=@Nat.mul_comm
abbrev o_:=@List.mem_iff_getElem
abbrev pd:=@Go.World.ownsRow.alloc
abbrev pf:=@Array.replicate_succ
abbrev ph:=@Array.replicate_zero
abbrev pi:=@List.push_toArray
abbrev pm:=@List.append_toArray
abbrev po:=@List.nil_append
abbrev sC:=@List.drop_eq_getElem_cons
abbrev sD:=@List.length_map
abbrev sE:=@List.getElem?_set_ne
abbrev sF:=@Go.World.cell?_setCell_same
abbrev sG:=@List.drop_drop
abbrev ut:=@List.drop_eq_nil_of_le
abbrev uu:=@List.nodup_range
abbrev uw:=@List.exists_mem_of_ne_nil
abbrev ux:=@Int.tdiv_eq_ediv_of_nonneg
abbrev uy:=@Go.RowKit.Below.drew
abbrev uz:=@List.getElem?_take
abbrev uA:=@List.mem_range
abbrev uB:=@Nat.mod_one
abbrev Ag:=@List.mem_cons_self
abbrev Ah:=@List.mem_cons_of_mem
abbrev Ai:=@Nat.ne_of_lt
abbrev Aj:=@Int.emod_nonneg
abbrev Ak:=@Int.ediv_nonneg
abbrev Al:=@Int.eq_ofNat_of_zero_le
abbrev Am:=@Go.Value.slice.injEq
abbrev Ao:=@List.getElem?_drop
abbrev Ap:=@Bool.eq_iff_iff
abbrev Aq:=@Bool.false_eq_true
abbrev Au:=@List.take_zero
abbrev Aw:=@Int.add_zero
abbrev Ay:=@Go.World.var?_cell
abbrev D9:=@Go.World.frozen?_alloc_old
abbrev D_:=@Int.add_mul
abbrev D':=@Int.le_of_lt
abbrev Ea:=@Int.mul_lt_mul_of_pos_right
abbrev Eb:=@Int.emod_lt_of_pos
abbrev Ec:=@List.length_range
abbrev Ed:=@Option.some.injEq
abbrev Ee:=@List.getD_eq_getElem?_getD
abbrev Ef:=@Int.mul_zero
abbrev zz108:=@Nat.lt_trans
abbrev Eg:=@Go.DataW.trod_int
abbrev Eh:=@Nat.min_eq_left
abbrev Ei:=@List.length_replicate
abbrev Ej:=@Int.mul_ediv_cancel
abbrev Ek:=@Nat.ne_of_gt
abbrev Kb:=@List.not_mem_nil
abbrev Kc:=@List.all_eq_true
abbrev Kd:=@List.nodup_append
abbrev Ke:=@List.getElem?_set_self
abbrev Kf:=@List.ext_getElem?
abbrev Kg:=@List.pairwise_iff_getElem
abbrev Kh:=@List.Perm.refl
abbrev Ki:=@List.length_set
abbrev Kj:=@List.any_append
abbrev Kk:=@Int.mul_le_mul_of_nonneg_left
abbrev Kl:=@List.sum_append
abbrev Km:=@Option.getD_some
abbrev Ko:=@Nat.mul_add_div
abbrev Kq:=@Nat.div_eq_of_lt
abbrev Kr:=@List.pairwise_map
abbrev Ks:=@Array.getElem?_toList
abbrev Kt:=@List.drop_zero
abbrev Ku:=@List.getElem?_cons_zero
abbrev Kv:=@Array.getElem?_push_size
abbrev Kw:=@List.mem_iff_getElem?
abbrev Kx:=@List.mem_of_getElem?
abbrev Ky:=@List.replicate_succ
abbrev Kz:=@Array.getElem?_eq_none
abbrev KA:=@Nat.le_of_not_lt
abbrev KF:=@List.mem_filter
abbrev KG:=@List.pairwise_cons
abbrev KH:=@List.count_le_length
abbrev NQ:=@List.getElem?_append_left
abbrev NS:=@List.getElem?_append_right
abbrev NT:=@Int.le_of_mul_le_mul_right
abbrev NV:=@Array.getElem?_eq_getElem
abbrev NX:=@Array.eq_empty_of_size_eq_zero
abbrev NY:=@Int.tmod_eq_emod_of_nonneg
abbrev NZ:=@Int.lt_of_mul_lt_mul_right
abbrev N1:=@List.eq_of_mem_replicate
theorem qH{p}(h:p):Hid p:=h
abbrev Iq(x:Int):Value:=.int .i64 x
abbrev Pq(b:Nat):Value:=.pointer (some (aj b 0))
abbrev Sq(b n c:Nat):Value:=.slice (some (aj b 0)) n c
theorem ad{α}(a:α):∃z,a=z:=⟨a,rfl⟩
theorem Lj{α}(a:α):∃z,z=a:=⟨a,rfl⟩
theorem ol(w:World)(a:List Value)b:∀j u,a[j]?=some u->(w.alloc (.cells a.toArray b)).cell? (((aj w.heap.size 0):Addr).add j)=some u:=by
 intro j u h;have e:((aj w.heap.size 0):Addr).add j=(aj w.heap.size (0+j)):=by unfold Addr.add;split<;>simp_all
 simp_all
theorem Gn{P}{k}{rest}{o}{a}{Q}{W0 w}{e}{i}{z v}{size bytes n}{y}(hi:P.info? e=some i)(J:i.zero=some z)(d:i.size=size)(m:i.bytes=bytes)(c:w.ownsRow W0.heap.size e size v n y)(j:Bt W0 w)b{t C}(p:o.guard=none)s x(E:o.op=.call {callee:=.builtin .append,args:=#[s,x],argTypes:=#[t,t]})(H:P.underlying t=some (.slice e))(f:z.cells.size=size/\0<size/\0<bytes)(G:a.eval s=v)(I:a.eval x=Sq w.heap.size 1 1)(B:b.length=1*size/\(b.all λu=>u.oneCell')=true)(A:(n+1)*bytes<=140737488355328)(h:∀l w',w'.ownsRow W0.heap.size e size l (n+1) (y++b)->Bt W0 w'->wpList P k Q rest (a.put o.dst l) w'):wpList P k Q (o::rest) a (w.alloc (.cells b.toArray C)):=by have r:=j.size;have K:=aF (Nat.le_mul_of_pos_right _ f.2.2) A;refine wpList_append_own _ p s x t E W0.heap.size e i z size bytes H hi J d m f.1 f.2.1 v n y G (c.alloc _) (aj w.heap.size 0) 1 1 b I B.1 (ol w b C) (λu hu=>Kc.1 B.2 u hu) (by unfold maxLen;omega) A (by rw[au];omega) λl w' h1 D _=>h l w' h1 ?_;exact(j.alloc r _).grown D (by rw[au];omega) λq F=>(c.lt q F).1
