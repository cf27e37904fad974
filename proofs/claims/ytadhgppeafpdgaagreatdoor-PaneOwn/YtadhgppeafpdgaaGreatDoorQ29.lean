import Derived.Test.YtadhgppeafpdgaaGreatDoorQ29B
set_option linter.all false
set_option maxRecDepth 100000
set_option maxHeartbeats 16000000
namespace Go.Proofs.YtadhgppeafpdgaaGreatDoor
open Go.RowKit Go.Sort Go.Proofs.Tryz
inductive St where
 |out
 |esc
 |amid (h:ByteArray)
 |wth (l:Nat->Int) (a:Int)
def uh(f:Nat)(cap:Array Value):Value:=.func (.func f) #[] cap
def Nx(Q:World)(T M:Nat)(v:Value):St->Prop
 |.out=>v=uh 17 #[]
 |.esc=>v=uh 32 #[]
 |.amid h=>∃k,v=uh 52 #[.pointer (some (aq k 0))]/\k≠T/\k≠M/\Q.heap[k]?=some (.cells #[.string h] 9 (0,0))
 |.wth l a=>∃k,v=uh 80 #[.pointer (some (aq k 0))]/\k≠T/\k≠M/\dG Q k l a
theorem mN(l:Nat->Int)(a:Int)(w:World):Calls Tryz.prog 51 #[oX l a] w fun e w'=>e=Rw (uh 80 #[.pointer (some (aq w.heap.size 0))])/\dG w' w.heap.size l a/\Gr w w':=by have hmf:∀(fn:Fn) (first cap:Array Value) (w:World),(Instr.makeFunc fn first cap).run Tryz.prog w=.ok (.func fn first cap) w:=fun _ _ _ _=>rfl;unfold oX;go_enter Tryz.func51,Tryz.ntmps51;go_wp2;go_ret;exact⟨rfl,dG.new w l a,(Gr.refl w).alloc _⟩
theorem GM(h:ByteArray)(w:World):Calls Tryz.prog 33 #[.string h] w fun e w'=>e=Rw (uh 52 #[.pointer (some (aq w.heap.size 0))])/\w'.heap[w.heap.size]?=some (.cells #[.string h] 9 (0,0))/\Gr w w':=by have hmf:∀(fn:Fn) (first cap:Array Value) (w:World),(Instr.makeFunc fn first cap).run Tryz.prog w=.ok (.func fn first cap) w:=fun _ _ _ _=>rfl;go_enter Tryz.func33,Tryz.ntmps33;go_wp2;go_ret;exact⟨rfl,heap_alloc_new _ _,(Gr.refl w).alloc _⟩
section
variable{T K M cap:Nat} {s:Tm} {nv:Value}
def gQ(w w':World)(e:Ending)(T K M cap:Nat)(s:Tm)(nv:Value)(st:St):Prop:=∃v,e=Rw v/\TM w' T K M cap s nv/\Nx w' T M v st/\C2 T M w w'
theorem gQ.wth{w w1 w':World}{l:Nat->Int}{a:Int}(h:TM w1 T K M cap s nv)(g:C2 T M w w1)(hn:dG w' w1.heap.size l a)(g2:Gr w1 w'):gQ w w' (.returned (uh 80 #[.pointer (some (aq w1.heap.size 0))])) T K M cap s nv (.wth l a):=
 ⟨_,rfl,h.gr g2,⟨_,rfl,by have:=h.lt;omega,by have:=h.cs.cv.lt;omega,hn⟩,g.trans (C2.gr g2)⟩
theorem Bu(w:World)(h:TM w T K M cap s nv)(bt:Int):Calls Tryz.prog 32 #[.pointer (some (aq T 0)),.int .u8 bt] w fun e w'=>gQ w w' e T K M cap s nv (if bt=91 then .wth (fun _=>0) 0 else .out):=by
 have HM:Hid (TM w T K M cap s nv):=h;have WI:Hid (∀w,Calls Tryz.prog 51 #[oX (fun _=>0) 0] w fun e w'=>e=Rw (uh 80 #[.pointer (some (aq w.heap.size 0))])/\dG w' w.heap.size (fun _=>0) 0/\Gr w w'):=mN _ _;unfold oX at WI;clear h;go_enter Tryz.func32,Tryz.ntmps32;by_cases hb:bt=91;·subst hb;rw[if_pos rfl];go_wp2_with fail;refine(WI.out w).mono ?_;rintro e w1 ⟨rfl,n1,g1⟩;have HD:=gQ.wth HM.out (C2.refl T M w) n1 g1;clear n1 g1;go_wp2;go_ret;exact HD
 ·have e91:(bt==91)=false:=by simpa using hb
  rw[if_neg hb];go_wp2;go_ret;exact⟨_,rfl,HM.out,rfl,C2.refl T M w⟩
def jH(s:Tm)(l:Nat->Int)(a:Nat)(b:Int):Tm×St:=
 if 48<=b/\b<=57 then(s,.wth (fZ l a (min (l a*10+(b-48)) 999999)) a)
 else if b=58 then(s,.wth l a)
 else if b=59 then(s,.wth l (min ((a:Int)+1) 16))
 else if 64<=b/\b<=126 then(ff s b l a,.out)
 else(s,.out)
theorem DX(w:World)(h:TM w T K M cap s nv)(bt:Int)(Ts:0<=bt/\bt<=255)(l:Nat->Int)(a:Nat)(k:Nat)(ha:a<=16)(hl:∀j,j<17->0<=l j/\l j<=999999)(hn:dG w k l a):
 Calls Tryz.prog 80 #[.pointer (some (aq T 0)),.int .u8 bt,.pointer (some (aq k 0))] w fun e w'=>gQ w w' e T K M cap (jH s l a bt).1 nv (jH s l a bt).2:=by
 have HM:Hid (TM w T K M cap s nv):=h;have HL:Hid (∀j,j<17->0<=l j/\l j<=999999):=hl;have HN:Hid (dG w k l a):=hn;obtain⟨d0,hu,Hp⟩:=zK;have nR:(Tryz.prog.info? 132).map (·.size)=some (c_ l (a:Int)).toList.length:=gL;clear h hl hn;go_enter Tryz.func80,Tryz.ntmps80;by_cases h1:48<=bt/\bt<=57;·have hE:jH s l a bt=(s,.wth (fZ l a (min (l a*10+(bt-48)) 999999)) a):=if_pos h1;rw[hE];clear hE;obtain⟨h1a,h1b⟩:=h1;go_wp2_with(refine wpList_load_mid rfl 132 _ rfl k 0 rfl (c_ l (a:Int)).toList d0 HN.out.range hu Hp nR ?_);refine(xc l a (bt-48) (by omega) (HL.out a (by omega)) (by omega) w).mono ?_;rintro e w1 ⟨rfl,g1⟩;have H1:Hid (TM w1 T K M cap s nv):=HM.out.gr g1;have C1:Hid (C2 T M w w1):=C2.gr g1;clear g1;go_wp2_with fail;refine(mN _ _ w1).mono ?_;rintro e w2 ⟨rfl,n2,g2⟩;have HD:=gQ.wth H1.out C1.out n2 g2;clear n2 g2;go_wp2;go_ret;exact HD
 ·have h1a:¬(48<=bt)\/¬(bt<=57):=by omega
  by_cases ZZ:bt=58
  ·have hE:jH s l a bt=(s,.wth l a):=by unfold jH;rw[if_neg h1,if_pos ZZ]
   rw[hE];clear hE;subst ZZ;go_wp2_with(refine wpList_load_mid rfl 132 _ rfl k 0 rfl (c_ l (a:Int)).toList d0 HN.out.range hu Hp nR ?_);refine(mN l a w).mono ?_;rintro e w2 ⟨rfl,n2,g2⟩;have HD:=gQ.wth HM.out (C2.refl T M w) n2 g2;clear n2 g2;go_wp2;go_ret;exact HD
  ·by_cases h59:bt=59
   ·have hE:jH s l a bt=(s,.wth l (min ((a:Int)+1) 16)):=by unfold jH;rw[if_neg h1,if_neg ZZ,if_pos h59]
    rw[hE];clear hE;subst h59;go_wp2_with(refine wpList_load_mid rfl 132 _ rfl k 0 rfl (c_ l (a:Int)).toList d0 HN.out.range hu Hp nR ?_);refine(sL l a (by omega) w).mono ?_;rintro e w1 ⟨rfl,g1⟩;have H1:Hid (TM w1 T K M cap s nv):=HM.out.gr g1;have C1:Hid (C2 T M w w1):=C2.gr g1;clear g1;go_wp2_with fail;refine(mN _ _ w1).mono ?_;rintro e w2 ⟨rfl,n2,g2⟩;have HD:=gQ.wth H1.out C1.out n2 g2;clear n2 g2;go_wp2;go_ret;exact HD
   ·have e58:(bt==58)=false:=by simpa using ZZ
    have e59:(bt==59)=false:=by simpa using h59
    by_cases h64:64<=bt/\bt<=126
    ·have hE:jH s l a bt=(ff s bt l a,.out):=by unfold jH;rw[if_neg h1,if_neg ZZ,if_neg h59,if_pos h64]
     rw[hE];clear hE;obtain⟨zm0,zm1⟩:=h64;have uA:decide (bt<=57)=false:=decide_eq_false (by omega);have ky:(48:Int)<=bt:=by omega
     go_wp2_with(refine wpList_load_mid rfl 132 _ rfl k 0 rfl (c_ l (a:Int)).toList d0 HN.out.range hu Hp nR ?_);refine(PH w HM.out bt l a (by omega) HL.out).mono ?_;rintro e w1 ⟨rfl,xC,g1⟩;have HD:Hid (TM w1 T K M cap (ff s bt l a) nv/\C2 T M w w1):=⟨xC,g1⟩;clear xC g1;go_wp2;go_ret;exact⟨_,rfl,HD.out.1,rfl,HD.out.2⟩
    ·have hE:jH s l a bt=(s,.out):=by unfold jH;rw[if_neg h1,if_neg ZZ,if_neg h59,if_neg h64]
     rw[hE];clear hE;by_cases q1:48<=bt
     ·have uA:decide (bt<=57)=false:=decide_eq_false (by omega);by_cases q2:64<=bt;·have RZ:decide (bt<=126)=false:=decide_eq_false (by omega);go_wp2;go_ret;exact⟨_,rfl,HM.out,rfl,C2.refl T M w⟩
      ·have RZ:decide (64<=bt)=false:=decide_eq_false q2;go_wp2;go_ret;exact⟨_,rfl,HM.out,rfl,C2.refl T M w⟩
     ·have uA:decide (48<=bt)=false:=decide_eq_false q1;have RZ:decide (64<=bt)=false:=decide_eq_false (by omega);go_wp2;go_ret;exact⟨_,rfl,HM.out,rfl,C2.refl T M w⟩
end
theorem Bh(bt:UInt8)(w:World):(convert 106 9 (.slice (some (aq w.heap.size 0)) 1 1)).run Tryz.prog (w.alloc (.cells #[.int .u8 (bt.toNat:Int)] 5))=.ok (.string ⟨#[bt]⟩) (w.alloc (.cells #[.int .u8 (bt.toNat:Int)] 5)):=by
 refine run_convert_bytes_back (P:=Tryz.prog) (w.alloc (.cells #[.int .u8 (bt.toNat:Int)] 5)) 106 9 5 (aq w.heap.size 0) 1 [bt] Tryz.underlying106 Tryz.underlying5 Tryz.underlying9 ?_;intro j hj;have hj0:j=0:=by simp at hj;omega
 subst hj0;have e:((aq w.heap.size 0):Addr).add 0=(aq w.heap.size 0):=by unfold Addr.add;split<;>simp_all
 rw[e,World.cell?_alloc_mark];simp
instance(l:List UInt8):Decidable (full l):=by unfold full;exact inferInstance
def tF(s:Tm)(t:ByteArray):Tm×St:=if full t.data.toList then(qM s ((ap t.data.toList)[0]?.getD 0),.out)else(s,.amid t)
section
variable{T K M cap:Nat} {s:Tm} {nv:Value}
theorem AX(w:World)(h:TM w T K M cap s nv)(hi:Ti s)(ht:aL w)(hU:Aj w)(bt:UInt8)(hf:ByteArray)(hfs:hf.size<=3)(k:Nat)(hk:w.heap[k]?=some (.cells #[.string hf] 9 (0,0)))
 (OM:full (hf++⟨#[bt]⟩).data.toList->(ap (hf++⟨#[bt]⟩).data.toList).length=1):
 Calls Tryz.prog 52 #[.pointer (some (aq T 0)),.int .u8 (bt.toNat:Int),.pointer (some (aq k 0))] w fun e w'=>gQ w w' e T K M cap (tF s (hf++⟨#[bt]⟩)).1 nv (tF s (hf++⟨#[bt]⟩)).2:=by
 have HM:Hid (TM w T K M cap s nv):=h;have HT:Hid (aL w):=ht;have HI:Hid (Ti s):=hi;have HU:Hid (Aj w):=hU;have ck:w.cell? (aq k 0)=some (.string hf):=by simp[World.cell?,hk]
 have cv:=Bh bt w;obtain⟨tx,oM⟩:∃z,hf++(⟨#[bt]⟩:ByteArray)=z:=⟨_,rfl⟩;have As:tx.size<=1000000:=by have e:(hf++(⟨#[bt]⟩:ByteArray)).size=hf.size+1:=Ec;rw[<-oM,e];omega
 have Mv:Hid (hf++(⟨#[bt]⟩:ByteArray)=tx):=oM;rw[oM];rw[oM]at OM;have Ss:Hid (full tx.data.toList->(ap tx.data.toList).length=1):=OM;clear h ht hi hU hk OM;go_enter Tryz.func52,Tryz.ntmps52;go_wp2_with fail;clear cv;have G0:Gr w (w.alloc (.cells #[.int .u8 (bt.toNat:Int)] 5)):=(Gr.refl w).alloc _;refine(BE tx _ (HU.out.below G0.below) As).mono ?_;rintro e w1 ⟨b,rfl,hb,g1⟩;have G1:Hid (Gr w w1):=G0.trans g1;have HB:Hid (b=true↔full tx.data.toList):=hb;clear G0 g1 hb;cases b with
 |false=>
  have HA:Hid (tF s tx=(s,.amid tx)):=by show _=_;unfold tF;rw[if_neg (fun q=>(nomatch HB.out.2 q))]
  go_wp2_with fail;refine(GM tx w1).mono ?_;rintro e w2 ⟨rfl,n2,g2⟩;have HD:gQ w w2 (.returned (uh 52 #[.pointer (some (aq w1.heap.size 0))])) T K M cap s nv (.amid tx):=
   ⟨_,rfl,(HM.out.gr G1.out).gr g2,⟨_,rfl,by have:=(HM.out.gr G1.out).lt;omega,by have:=(HM.out.gr G1.out).cs.cv.lt;omega,n2⟩,(C2.gr G1.out).trans (C2.gr g2)⟩;clear n2 g2;go_wp2;go_ret;rw[HA.out];exact HD
 |true=>
  have hfu:full tx.data.toList:=HB.out.1 rfl;have HA:Hid (tF s tx=(qM s ((ap tx.data.toList)[0]?.getD 0),.out)):=by show _=_;unfold tF;rw[if_pos hfu]
  have hr1:=Ss.out hfu;obtain⟨R,hR⟩:∃R,ap tx.data.toList=R:=⟨_,rfl⟩;have DC:Hid (Calls Tryz.prog 54 #[.string tx] w1 fun e w'=>∃v,e=Rw v/\w'.ownsRow w1.heap.size 3 1 v R.length (R.map (Value.int .i64))/\Bt w1 w'):=by have:=jn tx w1 (by omega);rw[hR]at this;exact this
  rw[hR]at hr1 HA;obtain⟨r,rfl⟩:∃r,R=[r]:=by
   match R,hr1 with
   |[r],_=>exact⟨r,rfl⟩
  clear hr1 hR hfu HB Ss;go_wp2_with fail;refine DC.out.mono ?_;rintro e w2 ⟨v,rfl,hv,b2⟩;obtain⟨g,cp,rfl,_⟩:∃g cp,v=.slice (some (aq g 0)) 1 cp/\True:=by
   rcases hv.2 with⟨_,h⟩|⟨g,cp,cM,e,_⟩;·cases h
   ·exact⟨g,cp,e,trivial⟩
  have y0:w2.cell? (aq g 0)=some (.int .i64 r):=hv.cellAt 0 (by decide);have GB:Hid (TM w2 T K M cap s nv):=(HM.out.gr G1.out).below b2;have HC2:Hid (C2 T M w w2):=(C2.gr G1.out).trans (C2.below b2);have HT2:Hid (aL w2):=(HT.out.below G1.out.below).below b2;clear hv b2 DC;go_wp2_with fail;refine(xS w2 GB.out HI.out HT2.out r).mono ?_;rintro e w3 ⟨rfl,h3,g3⟩;have HD:Hid (TM w3 T K M cap (qM s r) nv/\C2 T M w w3):=⟨h3,HC2.out.trans g3⟩;clear h3 g3;go_wp2;go_ret;rw[HA.out];exact⟨_,rfl,HD.out.1,rfl,HD.out.2⟩
end
theorem Lk(b:UInt8):(ap [b]).length=1:=by
 rw[iZ (by simp)];have h:([b]:List UInt8).drop (ub [b]).2=[]:=by have h1:1<=(ub [b]).2:=me [b];apply IW;simpa using h1
 rw[h];rfl
def jk(s:Tm)(b:UInt8):Tm×St:=
 if b.toNat=27 then({s with r:=clr s.r},.esc)else if b.toNat<32\/b.toNat=127 then({s with r:=clr s.r},.out)else tF s ⟨#[b]⟩
section
variable{T K M cap:Nat} {s:Tm} {nv:Value}
theorem rE(w:World)(h:TM w T K M cap s nv)(hi:Ti s)(ht:aL w)(hU:Aj w)(bt:UInt8):
 Calls Tryz.prog 17 #[.pointer (some (aq T 0)),.int .u8 (bt.toNat:Int)] w fun e w'=>gQ w w' e T K M cap (jk s bt).1 nv (jk s bt).2:=by
 have HM:Hid (TM w T K M cap s nv):=h;have HT:Hid (aL w):=ht;have HI:Hid (Ti s):=hi;have HU:Hid (Aj w):=hU;clear h ht hi hU;obtain⟨n,hn⟩:∃n,bt.toNat=n:=⟨_,rfl⟩;have HN:Hid (bt.toNat=n):=hn;by_cases ZY:n=27
 ·have HO:Hid (jk s bt=({s with r:=clr s.r},.esc)):=by show _=_;unfold jk;rw[if_pos (hn.trans ZY)]
  rw[hn,ZY];clear hn;go_enter Tryz.func17,Tryz.ntmps17;go_wp2_with fail;refine(kt w HM.out).mono ?_;rintro e w1 ⟨rfl,h1,g1⟩;have HD:Hid (TM w1 T K M cap {s with r:=clr s.r} nv/\C2 T M w w1):=⟨h1,g1⟩;clear h1 g1;go_wp2;go_ret;rw[HO.out];exact⟨_,rfl,HD.out.1,rfl,HD.out.2⟩
 ·have e27:((n:Int)==27)=false:=beq_eq_false_iff_ne.2 (by omega);by_cases hc:n<32\/n=127
  ·have HO:Hid (jk s bt=({s with r:=clr s.r},.out)):=by show _=_;unfold jk;rw[hn,if_neg ZY,if_pos hc]
   rw[hn];clear hn;have hcc:(decide ((n:Int)<32)=true)\/(decide ((n:Int)<32)=false/\n=127):=by
    by_cases q:n<32;·exact .inl (decide_eq_true (by omega))
    ·exact .inr ⟨decide_eq_false (by omega),by omega⟩
   rcases hcc with q1|⟨q1,rfl⟩;·go_enter Tryz.func17,Tryz.ntmps17;go_wp2_with fail;refine(kt w HM.out).mono ?_;rintro e w1 ⟨rfl,h1,g1⟩;have HD:Hid (TM w1 T K M cap {s with r:=clr s.r} nv/\C2 T M w w1):=⟨h1,g1⟩;clear h1 g1;go_wp2;go_ret;rw[HO.out];exact⟨_,rfl,HD.out.1,rfl,HD.out.2⟩
   ·go_enter Tryz.func17,Tryz.ntmps17;go_wp2_with fail;refine(kt w HM.out).mono ?_;rintro e w1 ⟨rfl,h1,g1⟩;have HD:Hid (TM w1 T K M cap {s with r:=clr s.r} nv/\C2 T M w w1):=⟨h1,g1⟩;clear h1 g1;go_wp2;go_ret;rw[HO.out];exact⟨_,rfl,HD.out.1,rfl,HD.out.2⟩
  ·have HO:Hid (jk s bt=tF s ⟨#[bt]⟩):=by show _=_;unfold jk;rw[hn,if_neg ZY,if_neg hc]
   have q1:decide ((n:Int)<32)=false:=decide_eq_false (by omega);have q2:((n:Int)==127)=false:=beq_eq_false_iff_ne.2 (by omega);have AM:Hid (∀w1 k,Gr w w1->w1.heap[k]?=some (.cells #[.string ⟨#[]⟩] 9 (0,0))->Calls Tryz.prog 52 #[.pointer (some (aq T 0)),.int .u8 (n:Int),.pointer (some (aq k 0))] w1 fun e w'=>gQ w1 w' e T K M cap (tF s ⟨#[bt]⟩).1 nv (tF s ⟨#[bt]⟩).2):=fun w1 k g hk=>by have:=AX w1 (HM.out.gr g) HI.out (HT.out.below g.below) (HU.out.below g.below) bt ⟨#[]⟩ (by decide) k hk (fun _=>by have e:((⟨#[]⟩:ByteArray)++⟨#[bt]⟩)=⟨#[bt]⟩:=rfl;rw[e];exact Lk bt);rw[hn]at this;exact this
   rw[hn];clear hn;go_enter Tryz.func17,Tryz.ntmps17;go_wp2_with fail;refine(GM _ w).mono ?_;rintro e w1 ⟨rfl,n1,g1⟩;have AM1:Hid (Calls Tryz.prog 52 #[.pointer (some (aq T 0)),.int .u8 (n:Int),.pointer (some (aq w.heap.size 0))] w1 fun e w'=>gQ w1 w' e T K M cap (tF s ⟨#[bt]⟩).1 nv (tF s ⟨#[bt]⟩).2):=AM.out w1 _ g1 n1;have C1:Hid (C2 T M w w1):=C2.gr g1;clear n1 g1 AM;unfold uh;go_wp2_with fail;refine AM1.out.mono ?_;rintro e w2 ⟨v,rfl,h2,n2,c2⟩;have HD:Hid (TM w2 T K M cap (tF s ⟨#[bt]⟩).1 nv/\Nx w2 T M v (tF s ⟨#[bt]⟩).2/\C2 T M w w2):=⟨h2,n2,C1.out.trans c2⟩;clear h2 n2 c2;go_wp2;go_ret;rw[HO.out];exact⟨v,rfl,HD.out.1,HD.out.2.1,HD.out.2.2⟩
end
theorem Ti.clr{s:Tm}(h:Ti s):Ti {s with r:=clr s.r}:=⟨h.x0,h.x1,h.y0,h.y1,by show(0:Int)<=0;decide,by show(0:Int)<=4;decide,by show((⟨#[]⟩:ByteArray).size:Int)<=4+4*0;decide⟩
theorem Ti.mark{s:Tm}(h:Ti s)(mk:ByteArray)(hm:mk.size<=4):Ti (jq s mk):=by
 unfold jq;split;·exact h
 ·rename_i hn;have h1:=h.m0;have h2:=h.m1;have h3:=h.ts;refine⟨h.x0,h.x1,h.y0,h.y1,?_,?_,?_⟩;·show 0<=s.r.lm+1;omega
  ·show s.r.lm+1<=4;omega
  ·show((s.r.lt++mk).size:Int)<=4+4*(s.r.lm+1);rw[Ec];omega
theorem Ti.pr{s:Tm}(h:Ti s)(r:Int):Ti (qM s r):=by
 have hs:=oE r;have hw:=Gq r;unfold qM;split;·exact h.mark _ hs
 ·split;·exact h.clr
  ·rename_i h1 h2;have Aw:=h.x0;refine⟨?_,?_,h.y0,h.y1,by show(0:Int)<=0;decide,by show(0:Int)<=4;decide,?_⟩;·show 0<=s.r.x+kY r;omega
   ·show s.r.x+kY r<=(s.W:Int);omega
   ·show((⟨(enc [r]).toArray⟩:ByteArray).size:Int)<=4+4*0;omega
def kG(s:Tm):List Int->Tm
 |[]=>s
 |r::R=>kG (qM s r) R
theorem Dr(s:Tm)(R:List Int)(r:Int):kG s (R++[r])=qM (kG s R) r:=by
 induction R generalizing s with
 |nil=>rfl
 |cons a R ih=>exact ih (qM s a)
theorem Ti.prs{s:Tm}(h:Ti s):∀R:List Int,Ti (kG s R)
 |[]=>h
 |r::R=>Ti.prs (h.pr r) R
def LR(s:Tm)(h:ByteArray)(b:UInt8):Tm×St:=if full (h++⟨#[b]⟩).data.toList/\(ap (h++⟨#[b]⟩).data.toList).length≠1 then jk (kG s (ap h.data.toList)) b else tF s (h++⟨#[b]⟩)
structure _V(T M:Nat):Prop where
 a:10≠T/\10≠M
 b:6≠T/\6≠M
 c:7≠T/\7≠M
theorem aL.c2{w w':World}{T M:Nat}(h:aL w)(g:C2 T M w w')(f:_V T M):aL w':=by
 have hl:10<w.heap.size:=by have h0:=(h 0 (by decide)).1;exact rS w _ h0
 have e:∀j,w'.cell? (aq 10 j)=w.cell? (aq 10 j):=fun j=>ba (a:=(aq 10 j)) (g.block _ hl f.a.1 f.a.2);intro i hi;have:=h i hi;rw[e,e,e];exact this
theorem Aj.c2{w w':World}{T M:Nat}(h:Aj w)(g:C2 T M w w')(f:_V T M):Aj w':=by have e1:∀j,w'.cell? (aq 6 j)=w.cell? (aq 6 j):=fun j=>ba (a:=(aq 6 j)) (g.block _ h.sz.1 f.b.1 f.b.2);have e2:∀j,w'.cell? (aq 7 j)=w.cell? (aq 7 j):=fun j=>ba (a:=(aq 7 j)) (g.block _ h.sz.2 f.c.1 f.c.2);exact⟨⟨zz007 h.sz.1 g.size,zz007 h.sz.2 g.size⟩,fun c hc=>(e1 c).trans (h.fi c hc),fun i hi=>(e2 _).trans (h.lo i hi),fun i hi=>(e2 _).trans (h.hi i hi)⟩
section
variable{T K M cap:Nat} {s:Tm} {nv:Value}
theorem JE(w:World)(h:TM w T K M cap s nv)(hi:Ti s)(ht:aL w)(hU:Aj w)(bt:UInt8)(hf:ByteArray)(hfs:hf.size<=3)(su:_V T M)(k:Nat)(hk:w.heap[k]?=some (.cells #[.string hf] 9 (0,0))):
 Calls Tryz.prog 52 #[.pointer (some (aq T 0)),.int .u8 (bt.toNat:Int),.pointer (some (aq k 0))] w fun e w'=>gQ w w' e T K M cap (LR s hf bt).1 nv (LR s hf bt).2:=by
 by_cases hq:full (hf++⟨#[bt]⟩).data.toList/\(ap (hf++⟨#[bt]⟩).data.toList).length≠1
 ·have HA:Hid (LR s hf bt=jk (kG s (ap hf.data.toList)) bt):=if_pos hq;have HM:Hid (TM w T K M cap s nv):=h;have HT:Hid (aL w):=ht;have HI:Hid (Ti s):=hi;have HU:Hid (Aj w):=hU;have HK:Hid (w.heap[k]?=some (.cells #[.string hf] 9 (0,0))):=hk;have ck:w.cell? (aq k 0)=some (.string hf):=by simp[World.cell?,hk]
  have cv:=Bh bt w;obtain⟨tx,oM⟩:∃z,hf++(⟨#[bt]⟩:ByteArray)=z:=⟨_,rfl⟩;have As:tx.size<=1000000:=by have e:(hf++(⟨#[bt]⟩:ByteArray)).size=hf.size+1:=Ec;rw[<-oM,e];omega
  rw[oM]at hq;obtain⟨R,hR⟩:∃R,ap tx.data.toList=R:=⟨_,rfl⟩;obtain⟨Q,hQ⟩:∃Q,ap hf.data.toList=Q:=⟨_,rfl⟩;have lA:=hq.1;have nT:=hq.2;rw[hR]at nT;rw[hQ]at HA;obtain⟨m,hm⟩:∃m,R.length=m:=⟨_,rfl⟩;have rj:((m:Int)==1)=false:=beq_eq_false_iff_ne.2 (by omega);have hQl:Q.length<=3:=by have:=bp hf.data.toList;rw[hQ,jV]at this;omega
  have DC:Hid (∀w1,Calls Tryz.prog 54 #[.string tx] w1 fun e w'=>∃v,e=Rw v/\(∃p c,v=.slice p m c)/\Bt w1 w'):=fun w1=>(jn tx w1 (by omega)).mono fun e w' q=>by
   obtain⟨v,q1,q2,q3⟩:=q;rw[hR,hm]at q2;refine⟨v,q1,?_,q3⟩;rcases q2.2 with⟨q4,q5⟩|⟨g,cp,cM,q4,_⟩;·exact⟨none,0,by rw[q4,q5]⟩
   ·exact⟨_,_,q4⟩
  have DH:Hid (∀w1,Calls Tryz.prog 54 #[.string hf] w1 fun e w'=>∃v,e=Rw v/\w'.ownsRow w1.heap.size 3 1 v Q.length (Q.map (Value.int .i64))/\Bt w1 w'):=fun w1=>by have:=jn hf w1 (by omega);rw[hQ]at this;exact this
  clear h ht hi hU hk hq hR hQ hm nT;go_enter Tryz.func52,Tryz.ntmps52;go_wp2_with fail;clear cv ck;have G0:Gr w (w.alloc (.cells #[.int .u8 (bt.toNat:Int)] 5)):=(Gr.refl w).alloc _;refine(BE tx _ (HU.out.below G0.below) As).mono ?_;rintro e w1 ⟨b,rfl,hb,g1⟩;have G1:Hid (Gr w w1):=G0.trans g1;have Ts:b=true:=hb.2 lA;subst Ts;clear G0 g1 hb lA;go_wp2_with fail;refine(DC.out w1).mono ?_;rintro e w2 ⟨v,rfl,⟨p2,c2,rfl⟩,b2⟩;have HB2:Hid (Bt w w2):=G1.out.below.trans (b2.mono G1.out.size);have ck:w2.cell? (aq k 0)=some (.string hf):=by have e:=(HB2.out.block k (az.1 HK.out).1).trans HK.out;simp[World.cell?,e]
  clear b2 DC;go_wp2_with fail;refine(DH.out w2).mono ?_;rintro e w3 ⟨v,rfl,hv,b3⟩;have fm:Hid (Bt w w3):=HB2.out.trans (b3.mono HB2.out.size);have HV:Hid (w3.ownsRow w2.heap.size 3 1 v Q.length (Q.map (Value.int .i64))):=hv;obtain⟨p3,c3,rfl⟩:∃p c,v=.slice p Q.length c:=by
   rcases hv.2 with⟨q4,q5⟩|⟨g,cp,cM,q4,_⟩;·exact⟨none,0,by rw[q4,q5]⟩
   ·exact⟨_,_,q4⟩
  have jD:=HB2.out.size;clear b3 hv DH ck;go_wp2;go_loopw[33] (fun iv wr=>∃j:Nat,j<=Q.length/\iv=.int .i64 (j:Int)/\Hid (TM wr T K M cap (kG s (Q.take j)) nv/\C2 T M w3 wr)) (fun iv _=>Q.length-(intOf iv).toNat);case atStart=>exact⟨0,bm _,rfl,HM.out.below fm.out,C2.refl _ _ _⟩
  case round=>
   obtain⟨j,hj,rfl,HJ⟩:=hrel;by_cases hlt:j<Q.length
   ·have aR:(j:Int)<(Q.length:Int):=by omega
    obtain⟨g,cp,hv,Oy,fd⟩:∃g cp,Value.slice p3 Q.length c3=.slice (some (aq g 0)) Q.length cp/\w2.heap.size<=g/\g<w3.heap.size:=by
     rcases HV.out.2 with⟨_,q5⟩|⟨g,cp,cM,q4,q5,q6,_⟩;·omega
     ·exact⟨g,cp,q4,q5,(az.1 q6).1⟩
    simp only[D6,true_and]at hv;obtain⟨rfl,rfl⟩:=hv;obtain⟨r,hr⟩:∃r,Q[j]?=some r:=⟨_,di hlt⟩;have y3:w3.cell? (aq g j)=some (.int .i64 r):=by have e:=HV.out.cellAt j (by omega);rw[vK,hr]at e;exact e
    have hTl:=HM.out.lt;have vQ:=HM.out.cs.cv.lt;have yj:wr.cell? (aq g j)=some (.int .i64 r):=(ba (a:=(aq g j)) (HJ.out.2.block g fd (by omega) (by omega))).trans y3;have HP:Hid (kG s (Q.take (j+1))=qM (kG s (Q.take j)) r):=by show _=_;rw[D',hr,<-Dr];rfl
    have PR:Hid (Calls Tryz.prog 55 #[.pointer (some (aq T 0)),.int .i64 r] wr fun e w'=>e=Rw (.tuple #[])/\TM w' T K M cap (qM (kG s (Q.take j)) r) nv/\C2 T M wr w'):=xS wr HJ.out.1 (HI.out.prs _) ((HT.out.below fm.out).c2 HJ.out.2 su) r;clear hr y3 hTl vQ;go_wp2_with fail;refine PR.out.mono ?_;rintro e w4 ⟨rfl,h4,g4⟩;have HJ4:Hid (TM w4 T K M cap (kG s (Q.take (j+1))) nv/\C2 T M w3 w4):=by show _/\_;rw[HP.out];exact⟨h4,HJ.out.2.trans g4⟩
    clear h4 g4 yj PR;go_wp2;go_roundw;case rel=>exact⟨j+1,by omega,by go_num,HJ4.out⟩
    case measure=>simp[intOf];omega
   ·have aR:¬(j:Int)<(Q.length:Int):=by omega
    have HJ5:Hid (TM wr T K M cap (kG s Q) nv/\C2 T M w3 wr):=by have:=HJ.out;rw[im (by omega)]at this;exact this
    have OU:Hid (Calls Tryz.prog 17 #[.pointer (some (aq T 0)),.int .u8 (bt.toNat:Int)] wr fun e w'=>gQ wr w' e T K M cap (jk (kG s Q) bt).1 nv (jk (kG s Q) bt).2):=rE wr HJ5.out.1 (HI.out.prs Q) ((HT.out.below fm.out).c2 HJ5.out.2 su) ((HU.out.below fm.out).c2 HJ5.out.2 su) bt;go_wp2_with fail;refine OU.out.mono ?_;rintro e w4 ⟨v,rfl,h4,n4,c4⟩;have HD:Hid (TM w4 T K M cap (jk (kG s Q) bt).1 nv/\Nx w4 T M v (jk (kG s Q) bt).2/\C2 T M w w4):=⟨h4,n4,((C2.below fm.out).trans HJ5.out.2).trans c4⟩;clear h4 n4 c4;go_wp2;go_ret;rw[HA.out];exact⟨v,rfl,HD.out.1,HD.out.2.1,HD.out.2.2⟩
 ·have HA:LR s hf bt=tF s (hf++⟨#[bt]⟩):=if_neg hq;rw[HA];exact AX w h hi ht hU bt hf hfs k hk (fun hfu=>by
   by_cases q:(ap (hf++⟨#[bt]⟩).data.toList).length=1;·exact q
   ·exact absurd ⟨hfu,q⟩ hq)
end
structure CL(Q:World)(g off n:Nat)(C:Nat->Ce):Prop where
 lt:g<Q.heap.size
 cell:∀i,i<n->∀(k:Nat) u,(c5 (C i))[k]?=some u->Q.cell? (aq g (off+i*5+k))=some u
theorem CL.below{Q Q':World}{g off n:Nat}{C:Nat->Ce}(h:CL Q g off n C)(hb:Bt Q Q'):CL Q' g off n C:=
 ⟨zz007 h.lt hb.size,fun i hi k u hu=>(hb.cell (p:=(aq g (off+i*5+k))) h.lt).trans (h.cell i hi k u hu)⟩
def lenOf:Value->Nat
 |.slice _ n _=>n
 |_=>0
theorem KL(C:Nat->Ce)(g lo n hi cap N:Nat)(hn:lo+n=hi)(hN:hi<=N)(hb:N<=1048576)(hc1:n<=cap)(E4:cap<=9223372036854775807)(w:World)(hC:CL w g 0 N C)(ht:aL w)(hs:∀i,i<N->(C i).t.size<=1099511627776):
 Calls Tryz.prog 66 #[.slice (some (aq g (lo*5))) n cap] w fun r w'=>MP w w' r (jM C lo hi):=by
 have kU:Tryz.prog.follows .mixedOrders=true:=by kernel_rfl
 have HC:Hid (CL w g 0 N C):=hC;have HT:Hid (aL w):=ht;have HZ:Hid (∀i,i<N->(C i).t.size<=1099511627776):=hs;clear hC ht hs;go_enter Tryz.func66,Tryz.ntmps66;go_wp2;go_loopw[0] (fun rv wr=>∃(x m c:Nat) (p:Option Addr),Hid (jg C lo hi x)/\x+m=hi/\rv=.slice p m c/\m<=c/\c<=9223372036854775807/\(x<hi->p=some (aq g (x*5)))/\Hid (Bt w wr)) (fun rv _=>lenOf rv);case atStart=>exact⟨lo,n,cap,_,jg.start (by omega),hn,rfl,hc1,E4,fun _=>rfl,ag _ _⟩
 case round=>
  obtain⟨x,m,c,p,HU,hm,rfl,hmc,hc3,hp,HB⟩:=hrel;by_cases hlt:x<hi
  ·obtain rfl:=hp hlt;have OI:(0:Int)<(m:Int):=by omega
   have hxN:x<N:=by omega
   have V:=HC.out.below HB.out;obtain⟨e,he⟩:∃e,C x=e:=⟨_,rfl⟩;have xD:∀(k:Nat) u,(c5 e)[k]?=some u->wr.cell? (aq g (x*5+k))=some u:=fun k u h=>by have:=V.cell x hxN k u (by rw[he];exact h);rw[cB]at this;exact this
   obtain⟨t,f,g0,b,q⟩:=e;have d0:wr.cell? (aq g (x*5))=some (.string t):=xD 0 _ rfl;have d1:=xD 1 (.int .i64 f) rfl;have d2:=xD 2 (.int .i64 g0) rfl;have d3:=xD 3 (.int .i64 b) rfl;have d4:=xD 4 (.int .i64 q) rfl;clear xD;have HE:Hid (C x=⟨t,f,g0,b,q⟩):=he;clear he;go_wp2_with fail;obtain⟨W0,bc⟩:∃z,wr.alloc (.cells #[.string t,.int .i64 f,.int .i64 g0,.int .i64 b,.int .i64 q] 47)=z:=⟨_,rfl⟩;obtain⟨S,hS⟩:∃z,wr.heap.size=z:=⟨_,rfl⟩;have G0:Hid (Gr wr W0):=by rw[<-bc];exact(Gr.refl wr).alloc _
   have R0:Hid (R5 47 W0 S ⟨t,f,g0,b,q⟩):=by rw[<-bc,<-hS];exact R5.new wr ⟨t,f,g0,b,q⟩ _
   have Gv:Hid (Bt w W0):=HB.out.trans (G0.out.below.mono HB.out.size);have eV:t.size<=1099511627776:=by have:=HZ.out x hxN;rw[HE.out]at this;exact this
   have IS:Hid (∀n,Calls Tryz.prog 124 #[.agg #[.string t,.int .i64 f,.int .i64 g0,.int .i64 b,.int .i64 q],.int .i64 n] W0 fun r w'=>∃bb:Bool,r=Rw (.bool bb)/\Hid (bb=true↔(n≠0/\AQ (C x)/\GL (C x) n))/\Hid (Bt w w')/\Hid (Bt W0 w')):=fun n=>(Cc ⟨t,f,g0,b,q⟩ n W0 (HT.out.below Gv.out) eV).mono fun r w' h=>by obtain⟨bb,h1,h2,h3⟩:=h;rw[HE.out];exact⟨bb,h1,h2,Gv.out.trans (h3.mono Gv.out.size),h3⟩
   have CO:Hid (∀w,Calls Tryz.prog 123 #[.int .i64 q] w fun e w'=>e=Rw (.int .i64 (oD q))/\w'=w):=mZ q;rw[bc,hS];clear eV V bc hS;by_cases RX:q=0
   ·subst RX;have HP:Hid ((C x).p=0):=by show _=_;rw[HE.out]
    have CO:Hid (∀w,Calls Tryz.prog 123 #[.int .i64 0] w fun e w'=>e=Rw (.int .i64 1)/\w'=w):=CO.out;refine(CO.out _).mono ?_;rintro e w1 ⟨rfl,hw⟩;obtain rfl:=hw.symm;have c0:=R0.out.c0;have c1:=R0.out.c1;have c2:=R0.out.c2;have c3:=R0.out.c3;have c4:=R0.out.c4;go_wp2_with fail;refine(IS.out 1).mono ?_;rintro r w2 ⟨bb,rfl,HI,HB2,_⟩;clear c0 c1 c2 c3 c4;have rj:decide ((m:Int)<1)=false:=decide_eq_false (by omega);cases bb with
    |false=>go_wp2;go_ret;exact⟨false,rfl,⟨fun h=>(nomatch h),fun h=>absurd h (HU.out.bad0 hlt HP.out fun k=>(nomatch HI.out.2 ⟨by decide,k.1,k.2⟩))⟩,HB2.out⟩
    |true=>have HU2:Hid (jg C lo hi (x+1)):=HU.out.one hlt HP.out (HI.out.1 rfl).2.1 (HI.out.1 rfl).2.2;go_wp2_with fail;go_quiet(fail);go_wp2;refine⟨⟨x+1,m-1,c-1,_,HU2.out,by omega,rfl,by omega,by omega,fun hx=>?_,(HB2.out.trans ((Gr.below ((Gr.refl _).drewN _)).mono HB2.out.size))⟩,by simp only[lenOf];omega⟩;rw[if_neg (by omega),fL,pM]
   ·by_cases lA:q=1
    ·subst lA;have HP:Hid ((C x).p=1):=by show _=_;rw[HE.out]
     have CO:Hid (∀w,Calls Tryz.prog 123 #[.int .i64 1] w fun e w'=>e=Rw (.int .i64 2)/\w'=w):=CO.out;refine(CO.out _).mono ?_;rintro e w1 ⟨rfl,hw⟩;obtain rfl:=hw.symm;have c0:=R0.out.c0;have c1:=R0.out.c1;have c2:=R0.out.c2;have c3:=R0.out.c3;have c4:=R0.out.c4;go_wp2_with fail;refine(IS.out 2).mono ?_;rintro r w2 ⟨bb,rfl,HI,HB2,_Y⟩;clear c0 c1 c2 c3 c4;cases bb with
     |false=>go_wp2;go_ret;exact⟨false,rfl,⟨fun h=>(nomatch h),fun h=>absurd h (HU.out.bad1 hlt HP.out fun k=>(nomatch HI.out.2 ⟨by decide,k.1,k.2⟩))⟩,HB2.out⟩
     |true=>
      have HY:Hid (AQ (C x)/\GL (C x) 2):=(HI.out.1 rfl).2;by_cases hm2:x+2<=hi
      ·have rj:decide ((m:Int)<2)=false:=decide_eq_false (by omega);have zou:(1:Int)<(m:Int):=by omega
       have R2:Hid (R5 47 w2 S ⟨t,f,g0,b,1⟩):=(_Y.out.block _ R0.out.lt).trans R0.out;have c1:=R2.out.c1;have c2:=R2.out.c2;have c3:=R2.out.c3;have V:=HC.out.below HB2.out;obtain⟨e,he⟩:∃e,C (x+1)=e:=⟨_,rfl⟩;have xD:∀(k:Nat) u,(c5 e)[k]?=some u->w2.cell? (aq g (x*5+5+k))=some u:=fun k u h=>by have:=V.cell (x+1) (by omega) k u (by rw[he];exact h);rw[cB,fL,pM]at this;exact this
       obtain⟨t1,f1,g1,b1,q1⟩:=e;have d0:w2.cell? (aq g (x*5+5))=some (.string t1):=xD 0 _ rfl;have d1:w2.cell? (aq g (x*5+6))=some (.int .i64 f1):=xD 1 _ rfl;have d2:w2.cell? (aq g (x*5+7))=some (.int .i64 g1):=xD 2 _ rfl;have d3:w2.cell? (aq g (x*5+8))=some (.int .i64 b1):=xD 3 _ rfl;have d4:w2.cell? (aq g (x*5+9))=some (.int .i64 q1):=xD 4 _ rfl;have HE1:Hid (C (x+1)=⟨t1,f1,g1,b1,q1⟩):=he;clear he xD V;go_wp2_with fail;by_cases k0:t1=⟨#[]⟩
       ·subst k0;by_cases k1:f1=f
        ·subst k1;by_cases k2:g1=g0
         ·subst k2;by_cases k3:b1=b
          ·subst k3;by_cases k4:q1=2;·subst k4;have HU2:Hid (jg C lo hi (x+2)):=HU.out.two hm2 HP.out HY.out.1 HY.out.2 (by rw[HE1.out,HE.out]);go_quiet(fail);go_wp2;refine⟨⟨x+2,m-2,c-2,_,HU2.out,by omega,rfl,by omega,by omega,fun hx=>?_,(HB2.out.trans ((Gr.below ((Gr.refl _).drewN _)).mono HB2.out.size))⟩,by simp only[lenOf];omega⟩;rw[if_neg (by omega),fL]
           ·have e5:(q1==2)=false:=by simpa using k4
            go_quiet(fail);go_wp2;go_ret;exact⟨false,rfl,⟨fun h=>(nomatch h),fun h=>absurd h (HU.out.bad2 hlt HP.out fun k=>by have k2:=k.2;rw[HE1.out,HE.out]at k2;injection k2 with k00 WE k22 k33 k44;exact k4 k44)⟩,(HB2.out.trans ((Gr.below ((Gr.refl _).drewN _)).mono HB2.out.size))⟩
          ·have e5:(b1==b)=false:=by simpa using k3
           go_quiet(fail);go_wp2;go_ret;exact⟨false,rfl,⟨fun h=>(nomatch h),fun h=>absurd h (HU.out.bad2 hlt HP.out fun k=>by have k2:=k.2;rw[HE1.out,HE.out]at k2;injection k2 with k00 WE k22 k33 k44;exact k3 k33)⟩,(HB2.out.trans ((Gr.below ((Gr.refl _).drewN _)).mono HB2.out.size))⟩
         ·have e5:(g1==g0)=false:=by simpa using k2
          go_quiet(fail);go_wp2;go_ret;exact⟨false,rfl,⟨fun h=>(nomatch h),fun h=>absurd h (HU.out.bad2 hlt HP.out fun k=>by have k2:=k.2;rw[HE1.out,HE.out]at k2;injection k2 with k00 WE k22 k33 k44;exact k2 k22)⟩,(HB2.out.trans ((Gr.below ((Gr.refl _).drewN _)).mono HB2.out.size))⟩
        ·have e5:(f1==f)=false:=by simpa using k1
         go_quiet(fail);go_wp2;go_ret;exact⟨false,rfl,⟨fun h=>(nomatch h),fun h=>absurd h (HU.out.bad2 hlt HP.out fun k=>by have k2:=k.2;rw[HE1.out,HE.out]at k2;injection k2 with k00 WE k22 k33 k44;exact k1 WE)⟩,(HB2.out.trans ((Gr.below ((Gr.refl _).drewN _)).mono HB2.out.size))⟩
       ·have e5:(t1.toList==(⟨#[]⟩:ByteArray).toList)=false:=zb k0;have e6:(t1.toList==[])=false:=by have q:=e5;rw[ByteArray.toList_eq (⟨#[]⟩:ByteArray)]at q;exact q
        have e7:t1.toList.isEmpty=false:=by rw[beq_eq_false_iff_ne]at e6;cases h:t1.toList with
         |nil=>exact absurd h e6
         |cons a l=>rfl
        have e8:¬t1.toList=[]:=by rw[beq_eq_false_iff_ne]at e6;exact e6
        go_quiet(fail);go_wp2;go_ret;exact⟨false,rfl,⟨fun h=>(nomatch h),fun h=>absurd h (HU.out.bad2 hlt HP.out fun k=>by have k2:=k.2;rw[HE1.out,HE.out]at k2;injection k2 with k00 WE k22 k33 k44;exact k0 k00)⟩,(HB2.out.trans ((Gr.below ((Gr.refl _).drewN _)).mono HB2.out.size))⟩
      ·have rj:decide ((m:Int)<2)=true:=decide_eq_true (by omega);go_wp2;go_ret;exact⟨false,rfl,⟨fun h=>(nomatch h),fun h=>absurd h (HU.out.bad2 hlt HP.out fun k=>hm2 k.1)⟩,HB2.out⟩
    ·have HP0:Hid ((C x).p≠0):=by show _≠_;rw[HE.out];exact RX
     have tn:Hid ((C x).p≠1):=by show _≠_;rw[HE.out];exact lA
     have CO:Hid (∀w,Calls Tryz.prog 123 #[.int .i64 q] w fun e w'=>e=Rw (.int .i64 0)/\w'=w):=fun w=>by have:=CO.out w;unfold oD at this;rw[if_neg RX,if_neg lA]at this;exact this
     refine(CO.out _).mono ?_;rintro e w1 ⟨rfl,hw⟩;obtain rfl:=hw.symm;have c0:=R0.out.c0;have c1:=R0.out.c1;have c2:=R0.out.c2;have c3:=R0.out.c3;have c4:=R0.out.c4;go_wp2_with fail;refine(IS.out 0).mono ?_;rintro r w2 ⟨bb,rfl,HI,HB2,_Y⟩;clear c0 c1 c2 c3 c4;cases bb with
     |true=>exact absurd rfl (HI.out.1 rfl).1
     |false=>go_wp2;go_ret;exact⟨false,rfl,⟨fun h=>(nomatch h),fun h=>absurd h (HU.out.bad3 hlt HP0.out tn.out)⟩,HB2.out⟩
  ·have OI:¬(0:Int)<(m:Int):=by omega
   obtain rfl:x=hi:=by have:=HU.out.high;omega
   go_wp2;go_ret;exact⟨true,rfl,⟨fun _=>HU.out.all,fun _=>rfl⟩,HB.out⟩
structure CB(Q:World)(g off n:Nat)(C:Nat->Ce):Prop where
 at_:∃cs fz,Q.heap[g]?=some (.cells cs 47 fz)
 cl:CL Q g off n C
theorem CB.kept{Q Q':World}{g off n:Nat}{C:Nat->Ce}(h:CB Q g off n C)(he:∀cs fz,Q.heap[g]?=some (.cells cs 47 fz)->Q'.heap[g]?=some (.cells cs 47 fz)):CB Q' g off n C:=by obtain⟨cs,fz,h1⟩:=h.at_;have h2:=he cs fz h1;refine⟨⟨cs,fz,h2⟩,(az.1 h2).1,fun i hi k u hu=>?_⟩;have:=h.cl.cell i hi k u hu;rw[Lib.cell_of_heap h1]at this;rw[Lib.cell_of_heap h2];exact this
theorem CB.low{w w2:World}{q off n:Nat}{C:Nat->Ce}(h:CB w q off n C)(ht:Bt w w2):CB w2 q off n C:=h.kept fun cs fz he=>(ht.block _ (az.1 he).1).trans he
theorem Ux{C:Nat->Ce}{n:Nat}{v:Int}(h:¬(1<=v/\v<=400)):¬vU C n v:=fun⟨W,H,h1,_,h3,h4,_⟩=>h (by omega)
theorem CY{C:Nat->Ce}{n W:Nat}(h:¬n %W=0):¬vU C n (W:Int):=fun⟨W',H,h1,h2,_⟩=>by
 obtain rfl:W=W':=by omega
 exact h (by rw[h2];exact Nat.mul_mod_left _ _)
theorem CV{C:Nat->Ce}{W H:Nat}(hW:1<=W)(h:¬(1<=H/\H<=400)):¬vU C (H*W) (W:Int):=fun⟨W',H',h1,h2,_,_,h3,h4,_⟩=>by
 obtain rfl:W=W':=by omega
 have:H=H':=Rk hW h2;subst this;exact h ⟨h3,h4⟩
theorem UZ{C:Nat->Ce}{W H:Nat}(hW:1<=W)(vR:W<=400)(hH:1<=H)(Tj:H<=400):vU C (H*W) (W:Int)↔∀y,y<H->jM C (y*W) (y*W+W):=by
 constructor
 ·rintro⟨W',H',h1,h2,_,_,_,_,h5⟩;obtain rfl:W=W':=by omega
  have:H=H':=Rk hW h2;subst this;exact h5
 ·intro h;exact⟨W,H,rfl,rfl,hW,vR,hH,Tj,h⟩
theorem t_(C:Nat->Ce)(v:Int)(p:Option Addr)(n cap:Nat)(hb:n<=1048576)(hc1:n<=cap)(E4:cap<=9223372036854775807)(w:World)(hC:n=0\/∃g,p=some (aq g 0)/\CL w g 0 n C)(ht:aL w)(hs:∀i,i<n->(C i).t.size<=1099511627776):
 Calls Tryz.prog 41 #[.slice p n cap,.int .i64 v] w fun r w'=>MP w w' r (vU C n v):=by
 have DS:Hid (∀n w,Calls Tryz.prog 65 #[.int .i64 n] w fun e w'=>e=Rw (.bool (decide (1<=n/\n<=400)))/\w'=w):=J5;by_cases hv:1<=v/\v<=400
 ·obtain⟨W,rfl⟩:∃W:Nat,v=(W:Int):=⟨v.toNat,by omega⟩;have _S:Hid (∀w,Calls Tryz.prog 65 #[.int .i64 (W:Int)] w fun e w'=>e=Rw (.bool true)/\w'=w):=fun w=>by have:=DS.out (W:Int) w;rw[decide_eq_true hv]at this;exact this
  have bc:¬(W:Int)=0:=by omega
  by_cases hr:n %W=0
  ·have hr':((n:Int) %(W:Int)!=0)=false:=by
    have:(n:Int) %(W:Int)=((n %W:Nat):Int):=by omega
    rw[this,hr];rfl
   obtain⟨H,hH⟩:∃H,n=H*W:=⟨n/W,by have:=Rg n W;rw[hr,jc]at this;omega⟩;have hq:(n:Int)/(W:Int)=(H:Int):=by rw[hH,Int.natCast_mul];exact Jd _ bc
   have Mu:Hid (n=H*W):=hH;have hHn:H<=n:=by rw[hH];exact Nat.le_mul_of_pos_right _ (by omega)
   have nT:wrap64 ((n:Int)/(W:Int))=(H:Int):=by rw[hq];unfold wrap64;omega
   by_cases hh:1<=H/\H<=400
   ·have _T:Hid (∀w,Calls Tryz.prog 65 #[.int .i64 (H:Int)] w fun e w'=>e=Rw (.bool true)/\w'=w):=fun w=>by have:=DS.out (H:Int) w;rw[decide_eq_true (by omega)]at this;exact this
    obtain⟨g,rfl,hCL⟩:∃g,p=some (aq g 0)/\CL w g 0 n C:=by
     rcases hC with h|h
     ·have:H*W=0:=by omega
      rcases Nat.mul_eq_zero.1 this with h|h<;>omega
     ·exact h
    have HC:Hid (CL w g 0 n C):=hCL;have HT:Hid (aL w):=ht;have HZ:Hid (∀i,i<n->(C i).t.size<=1099511627776):=hs;have HSI:Hid (vU C n (W:Int)↔∀y,y<H->jM C (y*W) (y*W+W)):=by show _↔_;rw[hH];exact UZ (by omega) (by omega) hh.1 hh.2
    clear hCL hC ht hs hq hr hH;go_enter Tryz.func41,Tryz.ntmps41;go_wp2_with fail;refine(_S.out _).mono ?_;rintro e w1 ⟨rfl,hw⟩;obtain rfl:=hw.symm;go_wp2_with fail;refine(_T.out _).mono ?_;rintro e w1 ⟨rfl,hw⟩;obtain rfl:=hw.symm;go_wp2;go_loopw[0] (fun rv wr=>∃(y x m c:Nat) (p:Option Addr),y<=H/\Hid (x=y*W)/\Hid (∀y',y'<y->jM C (y'*W) (y'*W+W))/\x+m=n/\rv=.slice p m c/\m<=c/\c<=9223372036854775807/\(x<n->p=some (aq g (x*5)))/\Hid (Bt w wr)) (fun rv _=>lenOf rv);case atStart=>exact⟨0,0,n,cap,_,bm _,by show 0=0*W;rw[I9],fun y' h=>absurd h (by omega),by omega,rfl,hc1,E4,fun _=>rfl,ag _ _⟩
    case round=>
     obtain⟨y,x,m,c,p,hy,HX,HR,hm,rfl,hmc,hc3,hp,HB⟩:=hrel;by_cases hlt:x<n
     ·obtain rfl:=hp hlt;have OI:(0:Int)<(m:Int):=by omega
      have _D:y<H:=by
       rcases yr y H with h|h;·exact h
       ·have h1:y=H:=by omega
        have h2:=HX.out;have h3:=Mu.out;rw[h1]at h2;omega
      have hxW:x+W<=n:=by have h1:(y+1)*W<=H*W:=jw _ _D;rw[fL,pM,<-HX.out,<-Mu.out]at h1;exact h1
      have hWm:W<=m:=by omega
      have IR:Hid (∀cap,W<=cap->cap<=9223372036854775807->Calls Tryz.prog 66 #[.slice (some (aq g (x*5))) W cap] wr fun r w'=>∃bb:Bool,r=Rw (.bool bb)/\Hid (bb=true↔jM C (y*W) (y*W+W))/\Hid (Bt w w')):=fun cap h1 h2=>(KL C g x W (x+W) cap n rfl hxW hb h1 h2 wr (HC.out.below HB.out) (HT.out.below HB.out) HZ.out).mono fun r w' h=>by obtain⟨bb,h1,h2,h3⟩:=h;rw[<-HX.out];exact⟨bb,h1,h2,HB.out.trans (h3.mono HB.out.size)⟩
      have hWc:W<=c:=by omega
      go_wp2_with fail;refine(IR.out _ (by omega) (by omega)).mono ?_;rintro r w2 ⟨bb,rfl,HI,HB2⟩;cases bb with
      |false=>go_wp2;go_ret;exact⟨false,rfl,⟨fun h=>(nomatch h),fun h=>(nomatch HI.out.2 (HSI.out.1 h y _D))⟩,HB2.out⟩
      |true=>
       have HR2:Hid (∀y',y'<y+1->jM C (y'*W) (y'*W+W)):=fun y' h=>by
        by_cases e:y'=y;·subst e;exact HI.out.1 rfl
        ·exact HR.out y' (by omega)
       go_wp2;refine⟨⟨y+1,x+W,m-W,c-W,_,_D,by show _=_;rw[HX.out,fL,pM],HR2.out,by omega,rfl,by omega,by omega,fun hx=>?_,HB2.out⟩,by simp only[lenOf];omega⟩;rw[if_neg (by omega),fL]
     ·have OI:¬(0:Int)<(m:Int):=by omega
      have hyH:y=H:=by
       have h2:=HX.out;have h3:=Mu.out;have h4:y*W=H*W:=by omega
       exact Rk (by omega) h4
      subst hyH;go_wp2;go_ret;exact⟨true,rfl,⟨fun _=>HSI.out.2 HR.out,fun _=>rfl⟩,HB.out⟩
   ·have _T:Hid (∀w,Calls Tryz.prog 65 #[.int .i64 (H:Int)] w fun e w'=>e=Rw (.bool false)/\w'=w):=fun w=>by have:=DS.out (H:Int) w;rw[decide_eq_false (by omega)]at this;exact this
    have HNS:Hid (¬vU C n (W:Int)):=by show¬_;rw[hH];exact CV (by omega) hh
    clear hq hH hr;go_enter Tryz.func41,Tryz.ntmps41;go_wp2_with fail;refine(_S.out _).mono ?_;rintro e w1 ⟨rfl,hw⟩;obtain rfl:=hw.symm;go_wp2_with fail;refine(_T.out _).mono ?_;rintro e w1 ⟨rfl,hw⟩;obtain rfl:=hw.symm;go_wp2;go_ret;exact⟨false,rfl,⟨fun h=>(nomatch h),fun h=>absurd h HNS.out⟩,ag _ _⟩
  ·have hr':((n:Int) %(W:Int)!=0)=true:=by
    have:(n:Int) %(W:Int)=((n %W:Nat):Int):=by omega
    rw[this];simp;omega
   have HNS:Hid (¬vU C n (W:Int)):=CY hr;clear hr;go_enter Tryz.func41,Tryz.ntmps41;go_wp2_with fail;refine(_S.out _).mono ?_;rintro e w1 ⟨rfl,hw⟩;obtain rfl:=hw.symm;go_wp2;go_ret;exact⟨false,rfl,⟨fun h=>(nomatch h),fun h=>absurd h HNS.out⟩,ag _ _⟩
 ·have _S:Hid (∀w,Calls Tryz.prog 65 #[.int .i64 v] w fun e w'=>e=Rw (.bool false)/\w'=w):=fun w=>by have:=DS.out v w;rw[decide_eq_false hv]at this;exact this
  go_enter Tryz.func41,Tryz.ntmps41;go_wp2_with fail;refine(_S.out _).mono ?_;rintro e w1 ⟨rfl,hw⟩;obtain rfl:=hw.symm;go_wp2;go_ret;exact⟨false,rfl,⟨fun h=>(nomatch h),fun h=>absurd h (Ux hv)⟩,ag _ _⟩
