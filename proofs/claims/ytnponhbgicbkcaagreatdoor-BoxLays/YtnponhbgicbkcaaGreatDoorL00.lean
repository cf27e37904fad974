import Derived.Below
set_option linter.unusedVariables false
set_option maxRecDepth 100000
set_option maxHeartbeats 16000000
namespace Go.Proofs.YtnponhbgicbkcaaGreatDoor
section
open Go.RowKit
theorem qH{p}(h:p):Hid p:=h
abbrev Iq (x:Int):Value:=.int .i64 x
abbrev Pq (b:Nat):Value:=.pointer (some ⟨b,0,none⟩)
abbrev Sq (b n c:Nat):Value:=.slice (some ⟨b,0,none⟩) n c
theorem nmd{α}(a:α):∃z,a=z:=⟨a,rfl⟩
theorem dmn{α}(a:α):∃z,z=a:=⟨a,rfl⟩
theorem new_cells(w:World)(news:List Value) ty :∀j u,news[j]?=some u->(w.alloc (.cells news.toArray ty)).cell? ((⟨w.heap.size,0,none⟩:Addr).add j)=some u:=by
 intro j u h;have e:(⟨w.heap.size,0,none⟩:Addr).add j=⟨w.heap.size,0+j,none⟩:=by unfold Addr.add;split<;>simp_all
 have hh:=heap_alloc_new w (.cells news.toArray ty);rw[e,Nat.zero_add];simp only[World.cell?];rw[hh];simpa using h
theorem ap1{P}{ops}{rest}{o}{a}{Q}{W0 w}{e}{i}{z v}{size bytes n}{xs}(hi:P.info? e=some i)(hz:i.zero=some z)(hsize:i.size=size)(hby:i.bytes=bytes)(hown:w.ownsRow W0.heap.size e size v n xs)(hbw:Below W0.heap.size W0 w) news {t ty}(hgd:o.guard=none) s x 
 (ho:o.op=.call {callee:=.builtin .append,args:=#[s,x],argTypes:=#[t,t]}) (ht:P.underlying t=some (.slice e)) (hzs:z.cells.size=size∧0<size∧0<bytes) (hs:a.eval s=v) (hx:a.eval x=Sq w.heap.size 1 1) (hl:news.length=1*size∧(news.all fun u=>u.oneCell')=true) (hb:(n+1)*bytes≤140737488355328)
 (h:∀v' w',w'.ownsRow W0.heap.size e size v' (n+1) (xs++news)->Below W0.heap.size W0 w'->wpList P ops Q rest (a.put o.dst v') w'):wpList P ops Q (o::rest) a (w.alloc (.cells news.toArray ty)):=by have hsz:=hbw.size;have hn:n+1≤140737488355328:=Nat.le_trans (Nat.le_mul_of_pos_right _ hzs.2.2) hb;refine wpList_append_own _ hgd s x t ho W0.heap.size e i z size bytes ht hi hz hsize hby hzs.1 hzs.2.1 v n xs hs (hown.alloc _) ⟨w.heap.size,0,none⟩ 1 1 news hx hl.1 (new_cells w news ty) (fun u hu=>List.all_eq_true.1 hl.2 u hu) (by unfold maxLen;omega) hb (by rw[World.size_alloc];omega) fun v' w' h1 h2 _=>h v' w' h1 ?_;exact(hbw.alloc hsz _).grown h2 (by rw[World.size_alloc];omega) fun q hq=>(hown.lt q hq).1
