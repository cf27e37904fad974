import Derived.Test.YtnponhbgicbkcaaGreatDoorC02
import Derived.Test.YtnponhbgicbkcaaGreatDoorC07
import Derived.Laws.IdiomStrings
import Derived.Test.YtnponhbgicbkcaaGreatDoorC04
import Derived.Lib.BufferRead
import Derived.Test.YtnponhbgicbkcaaGreatDoorC00
set_option linter.unusedVariables false
set_option maxRecDepth 100000
set_option maxHeartbeats 16000000
namespace Go.Proofs.YtnponhbgicbkcaaGreatDoor
section
open Go.RowKit
def enc(zs:List Int):List UInt8:=zs.flatMap Lib.encodeRune
theorem zoo(zs:List Int)(k:Nat)(h:k<zs.length):enc (zs.take (k+1))=enc (zs.take k)++Lib.encodeRune (zs[k]?.getD 0):=by
 unfold enc
 rw[List.take_succ_eq_append_getElem h,List.flatMap_append]
 simp[h]
theorem zbi(r:Int):(Lib.encodeRune r).length≤4:=by
 have:=(Lib.runeCells_le r).2
 rwa [Lib.runeCells_length] at this
theorem zko(zs:List Int):(enc zs).length≤4*zs.length:=by
 induction zs with
 | nil=>simp[enc]
 | cons z zs ih =>
  have:=zbi z
  unfold enc at *
  simp only[List.flatMap_cons,List.length_append,List.length_cons];omega
theorem zt8(zs:List Int)(k:Nat)(h:k≤zs.length):(enc (zs.take k)).length≤4*k:=by
 have:=zko (zs.take k)
 rw[List.length_take,Nat.min_eq_left h] at this
 exact this
theorem z8c(n:Int):Lib.encodeRune (zca n)=Lib.encodeRune n:=by unfold Lib.encodeRune;rw[zd6]
theorem zga{w:World}{B n:Nat}{v:Value}{l:List UInt8}(h:w.ownsRow B 5 1 v n (Lib.byteCells l)) :
 (convert 151 9 v).run Tryz.prog w=.ok (.string ⟨l.toArray⟩) w:=by
 obtain⟨hl,h2⟩:=h
 rw[Lib.byteCells_length] at hl
 rcases h2 with ⟨rfl,rfl⟩|⟨g,cap,cur,rfl,_,hg,_,_,_,htake⟩
 ·have:l=[]:=List.length_eq_zero_iff.1 (by omega)
  subst this
  exact Lib.run_convert_nil_bytes w 151 9 5 0 Tryz.underlying151 Tryz.underlying5 Tryz.underlying9
 ·have e:n=l.length:=by omega
  subst e
  exact run_convert_bytes_back w 151 9 5 ⟨g,0,none⟩ cap l Tryz.underlying151 Tryz.underlying5 Tryz.underlying9 (Lib.bytes_of_row hg (by rw[Nat.mul_one] at htake;exact htake))
theorem zps{w:World}{B:Nat}{v:Value}{l:List UInt8}{r:Int}(h:w.ownsRow B 5 1 v (l.length+(Lib.runeCells r).length) (Lib.byteCells l++Lib.runeCells r)) :
 w.ownsRow B 5 1 v (l++Lib.encodeRune r).length (Lib.byteCells (l++Lib.encodeRune r)):=by
 rw[Lib.byteCells_append,Lib.byteCells_encodeRune,List.length_append,<-Lib.runeCells_length];exact h
theorem zd8(zs:List Int)(b off cap:Nat)(w:World)(hb:b<w.heap.size)(hc:∀j,j<zs.length->w.cell? ⟨b,off+j,none⟩=some (.int .i64 (zs[j]?.getD 0)))(hlen:zs.length≤17592186044416) :
 Calls Tryz.prog 199 #[.slice (some ⟨b,off,none⟩) zs.length cap] w fun e w'=>e=.returned (.string ⟨(enc zs).toArray⟩)∧Below w.heap.size w w':=by
 have HC:Hid (∀j,j<zs.length->w.cell? ⟨b,off+j,none⟩=some (.int .i64 (zs[j]?.getD 0))):=hc
 clear hc
 go_enter Tryz.func199,Tryz.ntmps199
 go_wp2
 go_loopw [3,8] (fun v i wr=>∃k:Nat,k≤zs.length∧i=.int .i64 k∧wr.ownsRow w.heap.size 5 1 v (enc (zs.take k)).length (Lib.byteCells (enc (zs.take k)))∧Below w.heap.size w wr) (fun _ i _=>zs.length - (intOf i).toNat)
 case atStart=>exact⟨0,Nat.zero_le _,rfl,by simpa [enc,Lib.byteCells] using World.ownsRow_nil _ _ _ _,Below.refl _ _⟩
 case round =>
  obtain⟨k,hk,rfl,hown,hnx⟩:=hrel
  have hte:=zt8 zs k hk
  by_cases hlt:k<zs.length
  ·obtain⟨x,hx⟩:∃x,zs[k]?.getD 0=x:=⟨_,rfl⟩
   have hcx:wr.cell? ⟨b,off+k,none⟩=some (.int .i64 x):=by rw[<-hx];exact (hnx.cell (p:=⟨b,off+k,none⟩) hb).trans (HC.out k hlt)
   have hr:=zq0 x
   have hsz:=hnx.size
   have HX:Hid (enc (zs.take (k+1))=enc (zs.take k)++Lib.encodeRune (zca x)):=by show _=_;rw[zoo zs k hlt,hx,z8c]
   clear hx
   have hlt':(k:Int)<(zs.length:Int):=by omega
   go_wp2_with (first|(go_at_call 218;refine (zj9 _ _).mono ?_;rintro e w' ⟨rfl,rfl⟩)|(go_at_call 217;refine (zaa w.heap.size _ _ _ _ (by omega) (by omega) _ hown (by omega) hsz).mono ?_))
   rintro e W1 ⟨v',rfl,hown',o,hg⟩
   have hrow:∀q,Value.ownBlock u3=some q->w.heap.size≤q:=fun q hq=>(hown.lt q hq).1
   have hb1:Below w.heap.size w W1:=(hnx.alloc hsz o).grown hg (by simp;omega) hrow
   clear hcx hown hg hrow hnx
   go_wp2
   go_roundw
   case rel =>
    refine⟨k+1,by omega,by go_num,?_,hb1⟩
    rw[HX.out]
    exact zps hown'
   case measure=>simp[intOf];omega
  ·have ek:k=zs.length:=by omega
   have hlt':¬(k:Int)<(zs.length:Int):=by omega
   rw[ek,List.take_length] at hown
   have hcv:=zga hown
   clear ek
   go_wp2
   go_ret
   exact⟨rfl,hnx⟩
end
section
def isMk(r:Int):Bool:=decide (r≠10∧wid r=0)
theorem zbr(r:Int):isMk r=true↔r≠10∧wid r=0:=by simp[isMk]
theorem z5g(r:Int):isMk r=false↔¬(r≠10∧wid r=0):=by rw[<-zbr];cases isMk r <;> simp
theorem z2s{α:Type}(p:α->Bool)(l:List α)(k:Nat)(hk:k≤l.length)(h:∀j (hj:j<l.length),j<k->p l[j]=true)(he:∀hj:k<l.length,p l[k]=false):l.takeWhile p=l.take k:=by
 induction l generalizing k with
 | nil=>simp
 | cons a l ih =>
  cases k with
  | zero =>
   have:=he (by simp)
   simp at this
   simp[this]
  | succ k =>
   have h0:=h 0 (by simp) (by omega)
   simp at h0
   simp only[List.takeWhile_cons,h0,if_true,List.take_succ_cons]
   rw[ih k (by simpa using hk) (fun j hj hjk=>by have:=h (j+1) (by simpa using hj) (by omega);simpa using this) (fun hj=>by have:=he (by simpa using hj);simpa using this)]
def mks(R:List Int):List Int:=R.takeWhile isMk
theorem zuh(R:List Int):(mks R).length≤R.length:=(List.takeWhile_sublist _).length_le
def z3w(R:List Int):Int:=match R with|[]=>32|r::_=>if isMk r=true then 32 else r
def cOwn(R:List Int):Nat:=match R with|[]=>0|r::_=>if isMk r=true then 0 else 1
def z25(R:List Int):List Int:=mks (R.drop (cOwn R))
def cNum(R:List Int):Nat:=match R with|[]=>0|r::_=>if r=10 then 1 else cOwn R+(z25 R).length
def z35(R:List Int):List UInt8:=match R with|[]=>[]|r::_=>if r=10 then [10] else enc (z3w R::(z25 R).take 4)
def z3e(R:List Int):Int:=match R with|[]=>0|r::_=>if r=10 then 0 else wid (z3w R)
theorem z1n{R:List Int}(h:R≠[]):1≤cNum R:=by
 match R,h with
 | r::t,_ =>
  simp only[cNum]
  split
  ·omega
  ·by_cases hm:isMk r=true
   ·have e:cOwn (r::t)=0:=by simp[cOwn,hm]
    have:z25 (r::t)=r::mks t:=by simp[z25,e,mks,hm]
    rw[this];simp;omega
   ·have e:cOwn (r::t)=1:=by simp[cOwn,hm]
    omega
theorem zk6(R:List Int):cNum R≤R.length:=by
 match R with
 | []=>simp[cNum]
 | r::t =>
  simp only[cNum]
  split
  ·simp
  ·have h1:=zuh ((r::t).drop (cOwn (r::t)))
   rw[List.length_drop] at h1
   have h2:cOwn (r::t)≤1:=by simp only[cOwn];split <;> omega
   simp only[z25,List.length_cons] at *
   omega
def zen:Nat->List Int->List (List UInt8×Int)
 | 0,_=>[]
 | _+1,[]=>[]
 | f+1,r::t=>(z35 (r::t),z3e (r::t))::zen f ((r::t).drop (cNum (r::t)))
theorem z80:∀ (f g:Nat) (l:List Int),l.length≤f->l.length≤g->zen f l=zen g l
 | 0,0,_,_,_=>rfl
 | 0,g+1,l,h,_=>by
  have:l=[]:=List.length_eq_zero_iff.1 (by omega)
  subst this;rfl
 | f+1,0,l,_,h=>by
  have:l=[]:=List.length_eq_zero_iff.1 (by omega)
  subst this;rfl
 | f+1,g+1,[],_,_=>rfl
 | f+1,g+1,r::t,hf,hg=>by
  have hp:=z1n (R:=r::t) (by simp)
  simp only[List.length_cons] at hf hg
  simp only[zen]
  rw[z80 f g _ (by rw[List.length_drop,List.length_cons];omega) (by rw[List.length_drop,List.length_cons];omega)]
def clus(R:List Int):List (List UInt8×Int):=zen R.length R
theorem z48:clus []=[]:=rfl
theorem z1h{R:List Int}(h:R≠[]):clus R=(z35 R,z3e R)::clus (R.drop (cNum R)):=by
 cases R with
 | nil=>exact absurd rfl h
 | cons r t =>
  have hp:=z1n (R:=r::t) (by simp)
  show zen (t.length+1) (r::t)=_
  simp only[zen,clus]
  rw[z80 t.length _ _ (by rw[List.length_drop,List.length_cons];omega) (Nat.le_refl _)]
theorem z47(R:List Int):(clus R).length≤R.length:=by
 generalize hn:R.length=n
 induction n using Nat.strongRecOn generalizing R with
 | _ n ih =>
  by_cases h:R=[]
  ·subst h;rw[z48];simp
  ·rw[z1h h]
   have hp:=z1n h
   have hl:0<R.length:=List.length_pos_iff.2 h
   have:=ih (R.drop (cNum R)).length (by rw[List.length_drop];omega) _ rfl
   rw[List.length_drop] at this
   simp only[List.length_cons];omega
theorem zo9(R:List Int):0≤z3e R∧z3e R≤2:=by
 match R with
 | []=>simp[z3e]
 | r::t =>
  simp only[z3e]
  split
  ·omega
  ·exact zv3 _
theorem z8x(R:List Int):∀c∈clus R,0≤c.2∧c.2≤2:=by
 generalize hn:R.length=n
 induction n using Nat.strongRecOn generalizing R with
 | _ n ih =>
  by_cases h:R=[]
  ·subst h;rw[z48];simp
  ·rw[z1h h]
   have hp:=z1n h
   have hl:0<R.length:=List.length_pos_iff.2 h
   intro c hc
   rcases List.mem_cons.1 hc with rfl|hc
   ·exact zo9 R
   ·exact ih (R.drop (cNum R)).length (by rw[List.length_drop];omega) _ rfl c hc
def z05(l:List (List UInt8×Int)):Int:=(l.map (·.2)).sum
theorem z2y(l:List (List UInt8×Int))(k:Nat)(h:k<l.length):z05 (l.take (k+1))=z05 (l.take k)+(l[k]'h).2:=by
 unfold z05
 rw[List.take_succ_eq_append_getElem h,List.map_append,List.sum_append]
 simp only[List.map_cons,List.map_nil,List.sum_cons,List.sum_nil];omega
theorem z27(l:List (List UInt8×Int))(h:∀c∈l,0≤c.2∧c.2≤2)(k:Nat):0≤z05 (l.take k)∧z05 (l.take k)≤2*k:=by
 induction k with
 | zero=>simp[z05]
 | succ k ih =>
  by_cases hk:k<l.length
  ·rw[z2y l k hk]
   have:=h l[k] (List.getElem_mem hk)
   omega
  ·rw[List.take_of_length_le (by omega)] at *
   omega
end
section
open Go.RowKit
def z0y(w:World):Prop:=∀i,i<26->w.cell? ⟨12,i*3,none⟩=some (.int .i64 (z17 i).1)∧w.cell? ⟨12,i*3+1,none⟩=some (.int .i64 (z17 i).2.1)∧w.cell? ⟨12,i*3+2,none⟩=some (.int .i64 (z17 i).2.2)
theorem z3z(r:Int)(w:World)(ht:z0y w) :
 Calls Tryz.prog 200 #[.int .i64 r] w fun e w'=>e=.returned (.int .i64 (wid r))∧w'=w:=by
 have HT:Hid (z0y w):=ht
 clear ht
 by_cases h10:r=10
 ·subst h10
  rw[ztd]
  go_enter Tryz.func200,Tryz.ntmps200
  go_wp2
  go_ret
  exact⟨rfl,rfl⟩
 ·have h10':(r==10)=false:=by simp[h10]
  have H10:Hid (r≠10):=h10
  clear h10
  go_enter Tryz.func200,Tryz.ntmps200
  go_wp2
  go_loop [3,4] (fun a b=>∃lo hi:Nat,lo≤hi∧hi≤26∧a=.int .i64 lo∧b=.int .i64 hi∧Hid (Half r lo hi)) (fun a b=>(intOf b - intOf a).toNat)
  case atStart=>exact⟨0,26,by omega,by omega,rfl,rfl,zi9 r⟩
  case round =>
   obtain⟨lo,hi,hle,h26,rfl,rfl,hh⟩:=hrel
   by_cases hlt:lo<hi
   ·have hlt':(lo:Int)<(hi:Int):=by omega
    obtain⟨mid,hm⟩:∃mid:Nat,mid=(lo+hi) / 2:=⟨_,rfl⟩
    have hmid:((lo:Int)+(hi:Int)) / 2=(mid:Int):=by omega
    have hm26:mid<26:=by omega
    have hmlo:lo≤mid:=by omega
    have hmhi:mid<hi:=by omega
    clear hm
    obtain⟨c0,c1,c2⟩:=HT.out mid hm26
    obtain⟨a,b,c,hs⟩:∃a b c,z17 mid=(a,b,c):=⟨_,_,_,rfl⟩
    rw[hs] at c0 c1 c2
    have HS:Hid (z17 mid=(a,b,c)):=hs
    clear hs
    have fin1:r<a->Hid (Half r lo mid):=fun h=>zla hh.out hm26 (by rw[HS.out];exact h)
    have fin2:b<r->Hid (Half r (mid+1) hi):=fun h=>zox hh.out hm26 (by rw[HS.out];exact h)
    have fin3:Hid (a≤r->r≤b->wid r=c):=fun h k=>by
     have:=zqf r _ (zjd hm26) (by rw[HS.out];exact h) (by rw[HS.out];exact k)
     rw[HS.out] at this;exact this
    by_cases ha:r<a
    ·have h1:=fin1 ha
     clear fin1 fin2 fin3 hh
     go_wp2
     go_round
     case rel=>exact⟨lo,mid,by omega,by omega,rfl,by first|rfl|rw[hmid],h1⟩
     case measure=>simp[intOf];omega
    ·by_cases hb:b<r
     ·have h2:=fin2 hb
      clear fin1 fin2 fin3 hh
      go_wp2
      go_round
      case rel=>exact⟨mid+1,hi,by omega,by omega,by first|rfl|go_num|(rw[hmid];go_num),rfl,h2⟩
      case measure=>simp[intOf];omega
     ·have h3:Hid (wid r=c):=fin3.out (by omega) (by omega)
      clear fin1 fin2 fin3 hh
      go_wp2
      go_ret
      rw[h3.out]
      exact⟨rfl,rfl⟩
   ·have hlt':¬(lo:Int)<(hi:Int):=by omega
    have h3:Hid (wid r=1):=zow hh.out (by omega) H10.out
    clear hh
    go_wp2
    go_ret
    rw[h3.out]
    exact⟨rfl,rfl⟩
end
section
open Go.RowKit
theorem zbm(a:Option Addr)(cap:Nat)(w:World) :
 Calls Tryz.prog 199 #[.slice a 0 cap] w fun e w'=>e=.returned (.string ⟨#[]⟩)∧Below w.heap.size w w':=by
 have hcv:=zga (l:=[]) (show w.ownsRow w.heap.size 5 1 (.slice none 0 0) 0 (Lib.byteCells []) from World.ownsRow_nil w w.heap.size 5 1)
 go_enter Tryz.func199,Tryz.ntmps199
 go_wp2
 go_loop [3,8] (fun v i=>v=.slice none 0 0∧i=.int .i64 0) (fun _ _=>0)
 case atStart=>exact⟨rfl,rfl⟩
 case round =>
  obtain⟨rfl,rfl⟩:=hrel
  go_wp2
  go_ret
  exact⟨rfl,Below.refl _ _⟩
theorem z4a(zs:List Int)(v:Value)(w:World)(h:Ints w v zs)(hlen:zs.length≤17592186044416) :
 Calls Tryz.prog 199 #[v] w fun e w'=>e=.returned (.string ⟨(enc zs).toArray⟩)∧Below w.heap.size w w':=by
 obtain⟨a,cap,rfl,rfl|⟨b,off,rfl,hb,hc⟩⟩:=h
 ·exact zbm a cap w
 ·exact zd8 zs b off cap w hb hc hlen
theorem z4w{w:World}{B n:Nat}{v:Value}{zs:List Int}(h:w.ownsRow B 3 1 v n (zs.map (Value.int .i64))):Ints w v zs:=by
 have hl:zs.length=n:=by have:=h.1;simpa using this
 rcases h.2 with ⟨rfl,rfl⟩|⟨g,cap,cur,rfl,_,hg,_⟩
 ·have hz:zs=[]:=List.length_eq_zero_iff.1 hl
  subst hz
  exact⟨none,0,rfl,.inl rfl⟩
 ·refine⟨some ⟨g,0,none⟩,cap,by rw[hl],.inr ⟨g,0,rfl,(Array.getElem?_eq_some_iff.1 hg).1,fun j hj=>?_⟩⟩
  have:=h.cells (g:=g) rfl j (.int .i64 (zs[j]?.getD 0)) (by simp[hj])
  have e:(⟨g,0,none⟩:Addr).add j=⟨g,0+j,none⟩:=by unfold Addr.add;split <;> simp_all
  rwa [e] at this
end
section
def z1r(R:List Int):List Int:=match R with|[]=>[]|r::_=>if r=10 then [10] else z3w R::(z25 R).take 4
theorem zkp:enc [10]=[10]:=by decide +kernel
theorem z6e(R:List Int):z35 R=enc (z1r R):=by
 match R with
 | []=>rfl
 | r::t =>
  simp only[z35,z1r]
  split
  ·rw[zkp]
  ·rfl
def z0m(l:List (List UInt8×Int)):List UInt8:=l.flatMap (·.1)
theorem z6d(R:List Int):(z1r R).length≤5:=by
 match R with
 | []=>simp[z1r]
 | r::t =>
  simp only[z1r]
  split
  ·simp
  ·simp only[List.length_cons,List.length_take];omega
theorem zf3(l:List (List UInt8×Int))(k:Nat)(h:k<l.length):z0m (l.take (k+1))=z0m (l.take k)++(l[k]'h).1:=by
 unfold z0m
 rw[List.take_succ_eq_append_getElem h,List.flatMap_append]
 simp
theorem zaf(l:List (List UInt8×Int))(k:Nat):(z0m (l.take k)).length≤(z0m l).length:=by
 unfold z0m
 have e:l=l.take k++l.drop k:=(List.take_append_drop k l).symm
 have:(l.flatMap (·.1)).length=((l.take k).flatMap (·.1)).length+((l.drop k).flatMap (·.1)).length:=by
  rw[<-List.length_append,<-List.flatMap_append,List.take_append_drop]
 omega
end
section
def tx(l:List (List UInt8×Int))(n:Nat):List UInt8:=(l[n]?.map (·.1)).getD []
theorem zqa{l:List (List UInt8×Int)}{n:Nat}(h:n<l.length):tx l n=(l[n]).1:=by simp[tx,h]
theorem z28(c:List UInt8×Int)(b:List (List UInt8×Int)):z05 (c::b)=c.2+z05 b:=by simp[z05]
theorem z99(c:List UInt8×Int)(b:List (List UInt8×Int)):z0m (c::b)=c.1++z0m b:=by simp[z0m]
def fitN:List (List UInt8×Int)->Int->Nat
 | [],_=>0
 | c::t,w=>if c.1=[10]∨w<c.2 then 0 else fitN t (w - c.2)+1
theorem z91:∀ (l:List (List UInt8×Int)) (w:Int),fitN l w≤l.length
 | [],_=>Nat.le_refl _
 | c::t,w=>by
  simp only[fitN]
  split
  ·simp
  ·have:=z91 t (w - c.2);simp;omega
def Fit(l:List (List UInt8×Int))(w:Int)(k:Nat):Prop:=∀j,j<k->tx l j≠[10]∧z05 (l.take (j+1))≤w
theorem z6j:∀ (l:List (List UInt8×Int)) (w:Int) (k:Nat),k≤l.length->Fit l w k->(k<l.length->tx l k=[10]∨w<z05 (l.take (k+1)))->fitN l w=k
 | [],w,k,hk,_,_=>by simp only[List.length_nil] at hk;simp only[fitN];omega
 | c::t,w,0,_,_,he=>by
  have:=he (by simp)
  simp only[tx,List.take_succ_cons,List.take_zero,z28,List.getElem?_cons_zero,Option.map_some,Option.getD_some,show z05 []=0 from rfl,Int.add_zero] at this
  simp only[fitN,if_pos this]
 | c::t,w,k+1,hk,hf,he=>by
  have h0:=hf 0 (by omega)
  simp only[tx,List.take_succ_cons,List.take_zero,z28,List.getElem?_cons_zero,Option.map_some,Option.getD_some,show z05 []=0 from rfl,Int.add_zero] at h0
  have hn:¬(c.1=[10]∨w<c.2):=by rintro (h|h);exact h0.1 h;omega
  simp only[fitN,if_neg hn]
  rw[z6j t (w - c.2) k (by simpa using hk) (fun j hj=>by
   have:=hf (j+1) (by omega)
   rw[List.take_succ_cons,z28] at this
   exact⟨by simpa [tx] using this.1,by omega⟩) (fun h=>by
   have:=he (by simpa using h)
   rw[List.take_succ_cons,z28] at this
   rcases this with h|h
   ·exact .inl (by simpa [tx] using h)
   ·exact .inr (by omega))]
def z1w(l:List (List UInt8×Int)):Nat->Int
 | 0 => -1
 | n+1=>if tx l n=[32] then n else z1w l n
theorem z8j(l:List (List UInt8×Int)):∀n,z1w l n<n ∧ -1≤z1w l n
 | 0=>by simp[z1w]
 | n+1=>by
  have:=z8j l n
  simp only[z1w];split <;> omega
structure Cutt where
 n:Nat
 d:Nat
 e:Int
def z0g(r:List (List UInt8×Int))(w:Int):Cutt :=
 if fitN r w=r.length then ⟨fitN r w,0,3⟩
 else if tx r (fitN r w)=[10] then ⟨fitN r w,1,2⟩
 else if fitN r w=0 then ⟨1,0,1⟩
 else if tx r (fitN r w)=[32] then ⟨fitN r w,1,0⟩
 else if 0≤z1w r (fitN r w) then ⟨(z1w r (fitN r w)).toNat,1,0⟩
 else ⟨fitN r w,0,1⟩
theorem zd7(r:List (List UInt8×Int))(w:Int):(z0g r w).n+(z0g r w).d≤r.length:=by
 have h:=z91 r w
 have hb:=z8j r (fitN r w)
 unfold z0g
 repeat' split
 all_goals (simp only;omega)
theorem zi5(r:List (List UInt8×Int))(w:Int):(z0g r w).e=3∨1≤(z0g r w).n+(z0g r w).d:=by
 unfold z0g
 repeat' split
 all_goals (first|exact .inl rfl|(refine .inr ?_;simp only;omega))
structure Ln where
 T:List UInt8
 W:Int
 F:Nat
 N:Nat
 E:Int
def lnAt(l:List (List UInt8×Int))(w:Int)(a:Nat):Ln :=
 let c:=z0g (l.drop a) w
 let r:=(l.drop a).take c.n
 if w<z05 r then ⟨List.replicate w.toNat 32,w,a,1,c.e⟩ else ⟨z0m r,z05 r,a,r.length,c.e⟩
def nxt(l:List (List UInt8×Int))(w:Int)(a:Nat):Nat:=a+(z0g (l.drop a) w).n+(z0g (l.drop a) w).d
theorem zme(l:List (List UInt8×Int))(w:Int)(a:Nat)(h:a≤l.length):nxt l w a≤l.length:=by
 have:=zd7 (l.drop a) w
 rw[List.length_drop] at this
 unfold nxt;omega
theorem zqx(l:List (List UInt8×Int))(w:Int)(a:Nat):(lnAt l w a).E=(z0g (l.drop a) w).e:=by
 simp only[lnAt];split <;> rfl
theorem zh6(l:List (List UInt8×Int))(w:Int)(a:Nat)(h:(lnAt l w a).E≠3):a<nxt l w a:=by
 rw[zqx] at h
 have:=(zi5 (l.drop a) w).resolve_left h
 unfold nxt;omega
def z9e:Nat->List (List UInt8×Int)->Int->Nat->List Ln
 | 0,_,_,_=>[]
 | f+1,l,w,a=>if (lnAt l w a).E=3 then [lnAt l w a] else lnAt l w a::z9e f l w (nxt l w a)
theorem z6p:∀ (f g:Nat) (l:List (List UInt8×Int)) (w:Int) (a:Nat),a≤l.length->l.length<f+a->l.length<g+a->z9e f l w a=z9e g l w a
 | 0,_,_,_,_,_,h,_=>by omega
 | _+1,0,_,_,_,_,_,h=>by omega
 | f+1,g+1,l,w,a,ha,hf,hg=>by
  simp only[z9e]
  split
  ·rfl
  ·rename_i he
   have:=zh6 l w a he
   rw[z6p f g l w (nxt l w a) (zme l w a ha) (by omega) (by omega)]
def z3f(l:List (List UInt8×Int))(w:Int)(a:Nat):List Ln:=z9e (l.length+1 - a) l w a
theorem z7q{l:List (List UInt8×Int)}{w:Int}{a:Nat}(ha:a≤l.length)(h:(lnAt l w a).E=3):z3f l w a=[lnAt l w a]:=by
 unfold z3f
 rw[show l.length+1 - a=(l.length - a)+1 by omega]
 simp only[z9e,if_pos h]
theorem z9d{l:List (List UInt8×Int)}{w:Int}{a:Nat}(ha:a≤l.length)(h:(lnAt l w a).E≠3):z3f l w a=lnAt l w a::z3f l w (nxt l w a):=by
 have h1:=zh6 l w a h
 have h2:=zme l w a ha
 unfold z3f
 rw[show l.length+1 - a=(l.length - a)+1 by omega]
 simp only[z9e,if_neg h]
 rw[z6p (l.length - a) (l.length+1 - nxt l w a) l w (nxt l w a) h2 (by omega) (by omega)]
theorem z4e(l:List (List UInt8×Int))(w:Int)(a:Nat)(ha:a≤l.length):1≤(z3f l w a).length∧(z3f l w a).length≤l.length+1 - a:=by
 generalize hn:l.length - a=n
 induction n using Nat.strongRecOn generalizing a with
 | _ n ih =>
  by_cases h:(lnAt l w a).E=3
  ·rw[z7q ha h];simp;omega
  ·have h1:=zh6 l w a h
   have h2:=zme l w a ha
   rw[z9d ha h]
   have:=ih (l.length - nxt l w a) (by omega) (nxt l w a) h2 rfl
   simp only[List.length_cons];omega
def z2j(l:List (List UInt8×Int))(w:Int):List Ln:=if w<1 then [] else z3f l w 0
end
section
def one(l:List (List UInt8×Int)):List (List UInt8×Int):=l.map fun c=>if c.1=[10] then ([32],1) else c
theorem zhx(R:List Int):∀c∈clus R,c.1.length≤20:=by
 generalize hn:R.length=n
 induction n using Nat.strongRecOn generalizing R with
 | _ n ih =>
  by_cases h:R=[]
  ·subst h;rw[z48];simp
  ·have hp:=z1n h
   have hl:0<R.length:=List.length_pos_iff.2 h
   rw[z1h h]
   intro c hc
   rcases List.mem_cons.1 hc with rfl|hc
   ·show (z35 R).length≤20
    rw[z6e]
    have a:=zko (z1r R)
    have b:=z6d R
    omega
   ·exact ih (R.drop (cNum R)).length (by rw[List.length_drop];omega) _ rfl c hc
theorem zdf:∀ (l:List (List UInt8×Int)),(∀c∈l,c.1.length≤20)->(z0m l).length≤20*l.length
 | [],_=>by simp[z0m]
 | c::l,h=>by
  have a:=zdf l (fun x hx=>h x (by simp[hx]))
  have b:=h c (by simp)
  rw[z99,List.length_append,List.length_cons];omega
end
end Go.Proofs.YtnponhbgicbkcaaGreatDoor
