import Derived.Test.YtbeiapdobffpiaaGreatDoorProg
import Derived.Below
set_option linter.all false
set_option maxRecDepth 100000
set_option maxHeartbeats 16000000
namespace Go.Proofs.YtbeiapdobffpiaaGreatDoor
open Go.RowKit
abbrev Bt(w u:World):Prop:=Go.RowKit.Below w.heap.size w u
abbrev Rw(v:Value):Ending:=.returned v
abbrev Cw(f:FuncId)(a:Array Value)(w:World)(Q:Ending->World->Prop):Prop:=Calls Go.Proofs.Tryz.prog f a w Q
abbrev az(b o:Nat):Addr:=⟨b,o,none⟩
abbrev ag:=@Go.RowKit.Below.refl
abbrev ai:=@Nat.le_refl
abbrev am:=@Go.Calls.mono
abbrev aO:=@Go.World.size_alloc
abbrev aS:=@Array.getElem?_eq_some_iff
abbrev aT:=@Nat.le_trans
abbrev bc:=@Nat.zero_le
abbrev bf:=@List.length_append
abbrev bn:=@Nat.lt_of_lt_of_le
abbrev bC:=@Nat.zero_add
abbrev bU:=@Go.World.cell?_of_block
abbrev cF:=@Go.RowKit.Below.heap_setCell
abbrev cO:=@List.append_assoc
abbrev cW:=@List.length_drop
abbrev cX:=@List.length_take
abbrev dN:=@List.getElem?_eq_getElem
abbrev dX:=@Go.World.cell?_setCell_other
abbrev eY:=@Int.mul_right_comm
abbrev fB:=@List.length_cons
abbrev fC:=@Go.RowKit.Below.heap_alloc
abbrev gt:=@List.take_of_length_le
abbrev gM:=@Go.World.ownsRow_nil
abbrev gN:=@Go.World.frozen?_setCell
abbrev gO:=@List.take_append_drop
abbrev gP:=@Go.World.cell?_alloc_lt
abbrev gQ:=@Int.mul_nonneg
abbrev g_:=@Int.le_trans
abbrev iS:=@List.length_nil
abbrev jd:=@Int.mul_le_mul_of_nonneg_right
abbrev je:=@Int.mul_comm
abbrev jL:=@Int.le_refl
abbrev jM:=@List.pairwise_append
abbrev j9:=@Array.length_toList
abbrev j_:=@List.append_nil
abbrev ka:=@List.range_succ
abbrev ke:=@List.mem_of_mem_drop
abbrev lh:=@Option.some.inj
abbrev li:=@List.map_append
abbrev lj:=@List.mem_append
abbrev lk:=@List.eq_nil_of_length_eq_zero
abbrev lm:=@Int.mul_le_mul
abbrev ln:=@Go.World.block_lt_of_cell?
abbrev l6:=@List.getElem_mem
abbrev l8:=@ByteArray.ext
abbrev l_:=@List.take_succ_eq_append_getElem
abbrev ot:=@List.length_eq_zero_iff
abbrev ou:=@List.length_pos_iff
abbrev ox:=@List.mem_iff_getElem
abbrev oy:=@Int.toNat_natCast
abbrev oz:=@Go.World.frozen?_of_block
abbrev oA:=@Option.map_eq_some_iff
abbrev oB:=@Int.lt_of_lt_of_le
abbrev qi:=@Bool.and_eq_true
abbrev qj:=@List.take_length
abbrev qk:=@List.mem_of_mem_take
abbrev qm:=@List.size_toArray
abbrev tk:=@List.mem_cons
abbrev tm:=@List.drop_drop
abbrev tn:=@List.drop_eq_getElem_cons
abbrev tq:=@List.cons_append
abbrev vr:=@List.drop_eq_nil_of_le
abbrev vs:=@Go.World.cell?_setCell_same'
abbrev vt:=@List.getElem?_set_ne
abbrev vu:=@Go.World.cell?_setCell_same
abbrev vw:=@List.nodup_range
abbrev vx:=@List.exists_mem_of_ne_nil
abbrev vy:=@Int.tdiv_eq_ediv_of_nonneg
abbrev vz:=@Go.RowKit.Below.drew
abbrev vA:=@List.getElem?_take
abbrev vB:=@List.mem_range
abbrev vC:=@Array.replicate_succ
abbrev vD:=@Array.replicate_zero
abbrev vF:=@List.push_toArray
abbrev vG:=@List.append_toArray
abbrev vH:=@List.nil_append
abbrev vI:=@Nat.mod_one
abbrev Bb:=@List.getElem?_drop
abbrev Bc:=@Bool.eq_iff_iff
abbrev Bd:=@List.getElem?_eq_some_iff
abbrev Be:=@Nat.mul_le_mul_right
abbrev Bf:=@Nat.add_mul
abbrev Bg:=@Int.emod_nonneg
abbrev Bh:=@Int.ediv_nonneg
abbrev Bi:=@List.mem_map
abbrev Bj:=@Go.Value.slice.injEq
abbrev Bk:=@Go.World.var?_cell
abbrev Bl:=@List.mem_filter
abbrev E_:=@List.getD_eq_getElem?_getD
abbrev E':=@Bool.false_eq_true
abbrev Fa:=@Nat.add_zero
abbrev Fb:=@Go.World.frozen?_alloc_old
abbrev Fc:=@Int.le_of_lt
abbrev Fe:=@Int.mul_lt_mul_of_pos_right
abbrev Ff:=@Int.emod_lt_of_pos
abbrev Fg:=@List.length_range
abbrev Fh:=@Option.some.injEq
abbrev Fi:=@Int.mul_zero
abbrev Fj:=@Nat.mul_le_mul
abbrev Fk:=@Int.add_zero
abbrev Fl:=@Go.World.ownsRow.alloc
abbrev Fm:=@Int.mul_ediv_cancel
abbrev Ma:=@List.all_eq_true
abbrev Mb:=@Array.getElem?_toList
abbrev Mc:=@List.drop_zero
abbrev Md:=@Int.eq_ofNat_of_zero_le
abbrev Me:=@List.length_map
abbrev Mf:=@List.nodup_append
abbrev Mg:=@List.ext_getElem?
abbrev Mh:=@List.length_set
abbrev Mi:=@List.any_append
abbrev Mj:=@List.pairwise_iff_getElem
abbrev Mk:=@List.Perm.refl
abbrev Ml:=@List.mem_singleton
abbrev Mm:=@Int.mul_le_mul_of_nonneg_left
abbrev Mo:=@List.sum_append
abbrev Mq:=@Option.getD_some
abbrev Mr:=@List.pairwise_map
abbrev Mt:=@Array.getElem?_push_size
abbrev Mu:=@List.getElem?_cons_zero
abbrev Mv:=@Array.getElem?_eq_getElem
abbrev Mw:=@Array.getElem?_eq_none
abbrev My:=@Nat.le_of_not_lt
abbrev Mz:=@List.mergeSort_perm
abbrev MB:=@List.pairwise_cons
abbrev MC:=@List.count_le_length
abbrev MD:=@Go.WideAt.sameKey_eq
abbrev Rv:=@Int.le_of_mul_le_mul_right
abbrev Rx:=@Array.eq_empty_of_size_eq_zero
abbrev Ry:=@Int.tmod_eq_emod_of_nonneg
abbrev Rz:=@Int.lt_of_mul_lt_mul_right
theorem qH{p}(h:p):Hid p:=h
abbrev Iq (x:Int):Value:=.int .i64 x
abbrev Pq (b:Nat):Value:=.pointer (some (az b 0))
abbrev Sq (b n c:Nat):Value:=.slice (some (az b 0)) n c
theorem aj{α}(a:α):∃z,a=z:=⟨a,rfl⟩
theorem N7{α}(a:α):∃z,z=a:=⟨a,rfl⟩
theorem uV(w:World)(jU:List Value)  ty  :∀j u,jU[j]?=some u->(w.alloc (.cells jU.toArray ty)).cell? (((az w.heap.size 0):Addr).add j)=some u:=by
 intro j u h;have e:((az w.heap.size 0):Addr).add j=(az w.heap.size (0+j)):=by unfold Addr.add;split<;>simp_all
 simp_all
theorem Jc{P}{Yn}{rest}{o}{a}{Q}{W0 w}{e}{i}{z v}{size bytes n}{xs}(hi:P.info? e=some i)(hz:i.zero=some z)(XX:i.size=size)(SQ:i.bytes=bytes)(bi:w.ownsRow W0.heap.size e size v n xs)(hbw:Bt W0 w)  jU  {t ty} (hgd:o.guard=none)  s x 
 (ho:o.op=.call {callee:=.builtin .append,args:=#[s,x],argTypes:=#[t,t]}) (ht:P.underlying t=some (.slice e)) (Vm:z.cells.size=size/\0<size/\0<bytes) (hs:a.eval s=v) (hx:a.eval x=Sq w.heap.size 1 1) (hl:jU.length=1*size/\(jU.all fun u=>u.oneCell')=true) (hb:(n+1)*bytes<=140737488355328)
 (h:∀v' w',w'.ownsRow W0.heap.size e size v' (n+1) (xs++jU)->Bt W0 w'->wpList P Yn Q rest (a.put o.dst v') w'):wpList P Yn Q (o::rest) a (w.alloc (.cells jU.toArray ty)):=by have fT:=hbw.size;have hn:=aT (Nat.le_mul_of_pos_right _ Vm.2.2) hb;refine wpList_append_own _ hgd s x t ho W0.heap.size e i z size bytes ht hi hz XX SQ Vm.1 Vm.2.1 v n xs hs (bi.alloc _) (az w.heap.size 0) 1 1 jU hx hl.1 (uV w jU ty) (fun u hu=>Ma.1 hl.2 u hu) (by unfold maxLen;omega) hb (by rw[aO];omega) fun v' w' h1 h2 _=>h v' w' h1 ?_;exact(hbw.alloc fT _).grown h2 (by rw[aO];omega) fun q hq=>(bi.lt q hq).1
