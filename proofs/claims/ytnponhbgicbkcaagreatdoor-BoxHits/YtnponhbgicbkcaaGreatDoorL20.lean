import Derived.Shelf.Utf8.AppendRunePlain
import Derived.Test.YtnponhbgicbkcaaGreatDoorProg
import Derived.Test.YtnponhbgicbkcaaGreatDoorL00
import Derived.Test.YtnponhbgicbkcaaGreatDoorL05
import Derived.Lib.BufferRead
set_option linter.unusedVariables false
set_option maxRecDepth 100000
set_option maxHeartbeats 16000000
namespace Go.Proofs.YtnponhbgicbkcaaGreatDoor
section
open Go.Shelf Go.RowKit Go.Proofs.Tryz
def lays242_ren:Go.Shelf.Ren:=⟨fun|242=>217|278=>234|n=>n,fun|37=>151|21=>21|51=>250|4=>4|5=>5|46=>186|n=>n,fun|n=>n⟩
theorem lays242:Go.Proofs.Lays.n242 prog lays242_ren:={
 mixed:=by kernel_rfl
 f242:=func217.trans (congrArg some (by kernel_rfl))
 f278:=func234.trans (congrArg some (by kernel_rfl))
 t4:=underlying4
 a4:=isAgg4
 z4:=sizeOf4
 v4:=zeroValue4
 t5:=underlying5
 a5:=isAgg5
 z5:=sizeOf5
 v5:=zeroValue5
 t21:=underlying21
 a21:=isAgg21
 z21:=sizeOf21
 v21:=zeroValue21
 t37:=underlying151
 a37:=isAgg151
 z37:=sizeOf151
 v37:=zeroValue151
 t46:=underlying186
 a46:=isAgg186
 z46:=sizeOf186
 v46:=zeroValue186
 t51:=underlying250
 a51:=isAgg250
 z51:=sizeOf250
 v51:=zeroValue250}
theorem appendRune_any B  v  n  xs  r (hr0:-2147483648≤r)(hr1:r≤2147483647) w (hown:w.ownsRow B 5 1 v n xs)(hlen:n+4≤140737488355328)(hBw:B≤w.heap.size):
 Calls prog 217 #[v,.int .i32 r] w fun e w'=>∃v',e=.returned v'∧w'.ownsRow B 5 1 v' (n+(Lib.runeCells r).length) (xs++Lib.runeCells r)∧∃o,(w.alloc o).grownBy w' v.ownBlock:=Any.utf8_AppendRune_plain lays242 (by kernel_rfl) B v n xs r hr0 hr1 w hown hlen hBw
end
section
open Go.RowKit
def Ints(w:World)(v:Value)(zs:List Int):Prop:=
 ∃a cap,v=.slice a zs.length cap∧(zs=[]∨∃b off,a=some ⟨b,off,none⟩∧b<w.heap.size∧∀j,j<zs.length->w.cell? ⟨b,off+j,none⟩=some (Iq (zs[j]?.getD 0)))
end
section
open Go.RowKit Go.Proofs.Tryz
def enc(zs:List Int):List UInt8:=zs.flatMap Lib.encodeRune
theorem enc_snoc(zs:List Int) k (h:k<zs.length):enc (zs.take (k+1))=enc (zs.take k)++Lib.encodeRune (zs[k]?.getD 0):=by unfold enc;rw[List.take_succ_eq_append_getElem h,List.flatMap_append];simp[h]
theorem encodeRune_le r :(Lib.encodeRune r).length≤4:=by have:=(Lib.runeCells_le r).2;rwa[Lib.runeCells_length]at this
theorem enc_le zs :(enc zs).length≤4*zs.length:=by
 induction zs with
 |nil=>simp[enc]
 |cons z zs ih=>have:=encodeRune_le z;unfold enc at*;simp only[List.flatMap_cons,List.length_append,List.length_cons];omega
theorem take_le(zs:List Int) k (h:k≤zs.length):(enc (zs.take k)).length≤4*k:=by have:=enc_le (zs.take k);rw[List.length_take,Nat.min_eq_left h]at this;exact this
theorem encodeRune_runeI n :Lib.encodeRune (runeI n)=Lib.encodeRune n:=by unfold Lib.encodeRune;rw[encode_runeI]
theorem conv_own{w}{B n}{v}{l}(h:w.ownsRow B 5 1 v n (Lib.byteCells l)):
 (convert 151 9 v).run prog w=.ok (.string ⟨l.toArray⟩) w:=by
 obtain⟨hl,h2⟩:=h;rw[Lib.byteCells_length]at hl;rcases h2 with⟨rfl,rfl⟩|⟨g,cap,cur,rfl,_,hg,_,_,_,htake⟩;·have:l=[]:=List.length_eq_zero_iff.1 (by omega);subst this;exact Lib.run_convert_nil_bytes w 151 9 5 0 underlying151 underlying5 underlying9
 ·have e:n=l.length:=by omega
  subst e;exact run_convert_bytes_back w 151 9 5 ⟨g,0,none⟩ cap l underlying151 underlying5 underlying9 (Lib.bytes_of_row hg (by rw[Nat.mul_one]at htake;exact htake))
theorem own_snoc{w:World}{B}{v}{l}{r}(h:w.ownsRow B 5 1 v (l.length+(Lib.runeCells r).length) (Lib.byteCells l++Lib.runeCells r)):
 w.ownsRow B 5 1 v (l++Lib.encodeRune r).length (Lib.byteCells (l++Lib.encodeRune r)):=by rw[Lib.byteCells_append,Lib.byteCells_encodeRune,List.length_append,<-Lib.runeCells_length];exact h
theorem gEncode_some zs  b off cap  w (hb:b<w.heap.size)(hc:∀j,j<zs.length->w.cell? ⟨b,off+j,none⟩=some (Iq (zs[j]?.getD 0)))(hlen:zs.length≤17592186044416):
 Calls prog 199 #[.slice (some ⟨b,off,none⟩) zs.length cap] w fun e w'=>e=.returned (.string ⟨(enc zs).toArray⟩)∧Below w.heap.size w w':=by
 have HC:=qH<|hc;clear hc;go_enter func199,ntmps199;go_wp2;go_loopw[3,8] (fun v i wr=>∃k:Nat,k≤zs.length∧i=Iq k∧wr.ownsRow w.heap.size 5 1 v (enc (zs.take k)).length (Lib.byteCells (enc (zs.take k)))∧Below w.heap.size w wr) (fun _ i _=>zs.length-(intOf i).toNat);case atStart=>exact⟨0,Nat.zero_le _,rfl,by simpa[enc,Lib.byteCells]using World.ownsRow_nil _ _ _ _,Below.refl _ _⟩
 case round=>
  obtain⟨k,hk,rfl,hown,hnx⟩:=hrel;have hte:=take_le zs k hk;by_cases hlt:k<zs.length
  ·obtain⟨x,hx⟩:=nmd (zs[k]?.getD 0);have hcx:wr.cell? ⟨b,off+k,none⟩=some (Iq x):=by rw[<-hx];exact(hnx.cell (p:=⟨b,off+k,none⟩) hb).trans (HC k hlt)
   have hr:=runeI_bd x;have hsz:=hnx.size;have HX:Hid (enc (zs.take (k+1))=enc (zs.take k)++Lib.encodeRune (runeI x)):=by show _=_;rw[enc_snoc zs k hlt,hx,encodeRune_runeI]
   clear hx;have hlt':(k:Int)<(zs.length:Int):=by omega
   go_wp2_with(first|(go_at_call 218;refine(runeOf_any _ _).mono ?_;rintro e w' ⟨rfl,rfl⟩)|(go_at_call 217;refine(appendRune_any w.heap.size _ _ _ _ (by omega) (by omega) _ hown (by omega) hsz).mono ?_));rintro e W1 ⟨v',rfl,hown',o,hg⟩;have hrow:=fun q hq=>(hown.lt q hq).1;have hb1:=(hnx.alloc hsz o).grown hg (by simp;omega) hrow;clear hcx hown hg hrow hnx;go_wp2;go_roundw;case rel=>refine⟨k+1,by omega,by go_num,?_,hb1⟩;rw[HX.out];exact own_snoc hown'
   case measure=>simp[intOf];omega
  ·have ek:k=zs.length:=by omega
   have hlt':¬(k:Int)<(zs.length:Int):=by omega
   rw[ek,List.take_length]at hown;have hcv:=conv_own hown;clear ek;go_wp2;go_ret;exact⟨rfl,hnx⟩
end
section
def Sc(r:Int):Prop:=(0≤r∧r<55296)∨(57343<r∧r≤1114111)
def Good(r:Int):Prop:=Sc r∧shownI r=r
end
section
def isMk(r:Int):Bool:=decide (r≠10∧wid r=0)
theorem isMk_iff r :isMk r=true↔r≠10∧wid r=0:=by simp[isMk]
theorem isMk_false r :isMk r=false↔¬(r≠10∧wid r=0):=by rw[<-isMk_iff];cases isMk r<;>simp
theorem takeWhile_stop{α:Type} p (l:List α) k (hk:k≤l.length)(h:∀j (hj:j<l.length),j<k->p l[j]=true)(he:∀hj,p l[k]=false):l.takeWhile p=l.take k:=by
 induction l generalizing k with
 |nil=>simp
 |cons a l ih=>
  cases k with
  |zero=>have:=he (by simp);simp at this;simp[this]
  |succ k=>have h0:=h 0 (by simp) (by omega);simp at h0;simp only[List.takeWhile_cons,h0,if_true,List.take_succ_cons];rw[ih k (by simpa using hk) (fun j hj hjk=>by have:=h (j+1) (by simpa using hj) (by omega);simpa using this) (fun hj=>by have:=he (by simpa using hj);simpa using this)]
def mks(R:List Int):List Int:=R.takeWhile isMk
theorem mks_le R :(mks R).length≤R.length:=(List.takeWhile_sublist _).length_le
def cBase(R:List Int):Int:=match R with|[]=>32|r::_=>if isMk r=true then 32 else r
def cOwn(R:List Int):Nat:=match R with|[]=>0|r::_=>if isMk r=true then 0 else 1
def cMarks(R:List Int):List Int:=mks (R.drop (cOwn R))
def cNum(R:List Int):Nat:=match R with|[]=>0|r::_=>if r=10 then 1 else cOwn R+(cMarks R).length
def cText(R:List Int):List UInt8:=match R with|[]=>[]|r::_=>if r=10 then[10]else enc (cBase R::(cMarks R).take 4)
def cWide(R:List Int):Int:=match R with|[]=>0|r::_=>if r=10 then 0 else wid (cBase R)
theorem cNum_pos{R}(h:R≠[]):1≤cNum R:=by
 match R,h with
 |r::t,_=>
  simp only[cNum];split;·omega
  ·by_cases hm:isMk r=true
   ·have e:cOwn (r::t)=0:=by simp[cOwn,hm]
    have:cMarks (r::t)=r::mks t:=by simp[cMarks,e,mks,hm]
    rw[this];simp;omega
   ·have e:cOwn (r::t)=1:=by simp[cOwn,hm]
    omega
theorem cNum_le R :cNum R≤R.length:=by
 match R with
 |[]=>simp[cNum]
 |r::t=>
  simp only[cNum];split;·simp
  ·have h1:=mks_le ((r::t).drop (cOwn (r::t)));rw[List.length_drop]at h1;have h2:cOwn (r::t)≤1:=by simp only[cOwn];split<;>omega
   simp only[cMarks,List.length_cons]at*;omega
def clusF:Nat->List Int->List (List UInt8×Int)
 |0,_=>[]
 |_+1,[]=>[]
 |f+1,r::t=>(cText (r::t),cWide (r::t))::clusF f ((r::t).drop (cNum (r::t)))
theorem clusF_enough:∀ f g   l ,l.length≤f->l.length≤g->clusF f l=clusF g l
 |0,0,_,_,_=>rfl
 |0,g+1,l,h,_=>by have:l=[]:=List.length_eq_zero_iff.1 (by omega);subst this;rfl
 |f+1,0,l,_,h=>by have:l=[]:=List.length_eq_zero_iff.1 (by omega);subst this;rfl
 |f+1,g+1,[],_,_=>rfl
 |f+1,g+1,r::t,hf,hg=>by have hp:=cNum_pos (R:=r::t) (by simp);simp only[List.length_cons]at hf hg;simp only[clusF];rw[clusF_enough f g _ (by rw[List.length_drop,List.length_cons];omega) (by rw[List.length_drop,List.length_cons];omega)]
def clus(R:List Int):List (List UInt8×Int):=clusF R.length R
theorem clus_nil:clus []=[]:=rfl
theorem clus_step{R}(h:R≠[]):clus R=(cText R,cWide R)::clus (R.drop (cNum R)):=by
 cases R with
 |nil=>exact absurd rfl h
 |cons r t=>have hp:=cNum_pos (R:=r::t) (by simp);show clusF (t.length+1) (r::t)=_;simp only[clusF,clus];rw[clusF_enough t.length _ _ (by rw[List.length_drop,List.length_cons];omega) (Nat.le_refl _)]
theorem clus_length R :(clus R).length≤R.length:=by
 generalize hn:R.length=n;induction n using Nat.strongRecOn generalizing R with
 |_ n ih=>
  by_cases h:R=[];·subst h;rw[clus_nil];simp
  ·rw[clus_step h];have hp:=cNum_pos h;have hl:=List.length_pos_iff.2 h;have:=ih (R.drop (cNum R)).length (by rw[List.length_drop];omega) _ rfl;rw[List.length_drop]at this;simp only[List.length_cons];omega
theorem wid_blank:wid 32=1:=by decide+kernel
theorem cWide_bd R :0≤cWide R∧cWide R≤2:=by
 match R with
 |[]=>simp[cWide]
 |r::t=>
  simp only[cWide];split;·omega
  ·exact wid_bd _
theorem clus_wide R :∀c∈clus R,0≤c.2∧c.2≤2:=by
 generalize hn:R.length=n;induction n using Nat.strongRecOn generalizing R with
 |_ n ih=>
  by_cases h:R=[];·subst h;rw[clus_nil];simp
  ·rw[clus_step h];have hp:=cNum_pos h;have hl:=List.length_pos_iff.2 h;intro c hc;rcases List.mem_cons.1 hc with rfl|hc;·exact cWide_bd R
   ·exact ih (R.drop (cNum R)).length (by rw[List.length_drop];omega) _ rfl c hc
def wideSum(l:List (List UInt8×Int)):Int:=(l.map (·.2)).sum
theorem wideSum_snoc(l:List (List UInt8×Int)) k  h :wideSum (l.take (k+1))=wideSum (l.take k)+(l[k]'h).2:=by unfold wideSum;rw[List.take_succ_eq_append_getElem h,List.map_append,List.sum_append];simp only[List.map_cons,List.map_nil,List.sum_cons,List.sum_nil];omega
theorem wideSum_bd(l:List (List UInt8×Int))(h:∀c∈l,0≤c.2∧c.2≤2) k :0≤wideSum (l.take k)∧wideSum (l.take k)≤2*k:=by
 induction k with
 |zero=>simp[wideSum]
 |succ k ih=>
  by_cases hk:k<l.length;·rw[wideSum_snoc l k hk];have:=h l[k] (List.getElem_mem hk);omega
  ·rw[List.take_of_length_le (by omega)]at*;omega
end
section
open Go.RowKit Go.Proofs.Tryz
def TabAt(w:World):Prop:=∀i,i<26->w.cell? ⟨12,i*3,none⟩=some (Iq (spanAt i).1)∧w.cell? ⟨12,i*3+1,none⟩=some (Iq (spanAt i).2.1)∧w.cell? ⟨12,i*3+2,none⟩=some (Iq (spanAt i).2.2)
theorem gWidth_any r  w (ht:TabAt w):
 Calls prog 200 #[Iq r] w fun e w'=>e=.returned (Iq (wid r))∧w'=w:=by
 have HT:=qH<|ht;clear ht;by_cases h10:r=10;·subst h10;rw[wid_ten];go_enter func200,ntmps200;go_wp2;go_ret;exact⟨rfl,rfl⟩
 ·have h10':(r==10)=false:=by simp[h10]
  have H10:Hid (r≠10):=h10;clear h10;go_enter func200,ntmps200;go_wp2;go_loop[3,4] (fun a b=>∃lo hi:Nat,lo≤hi∧hi≤26∧a=Iq lo∧b=Iq hi∧Hid (Half r lo hi)) (fun a b=>(intOf b-intOf a).toNat);case atStart=>exact⟨0,26,by omega,by omega,rfl,rfl,half_start r⟩
  case round=>
   obtain⟨lo,hi,hle,h26,rfl,rfl,hh⟩:=hrel;by_cases hlt:lo<hi
   ·have hlt':(lo:Int)<(hi:Int):=by omega
    obtain⟨mid,hm⟩:∃mid:Nat,mid=(lo+hi)/2:=⟨_,rfl⟩;have hmid:((lo:Int)+(hi:Int))/2=(mid:Int):=by omega
    have hm26:mid<26:=by omega
    have hmlo:lo≤mid:=by omega
    have hmhi:mid<hi:=by omega
    clear hm;obtain⟨c0,c1,c2⟩:=HT mid hm26;obtain⟨a,b,c,hs⟩:∃a b c,spanAt mid=(a,b,c):=⟨_,_,_,rfl⟩;rw[hs]at c0 c1 c2;have HS:=qH<|hs;clear hs;have fin1:r<a->Hid (Half r lo mid):=fun h=>half_high hh hm26 (by rw[HS.out];exact h);have fin2:b<r->Hid (Half r (mid+1) hi):=fun h=>half_low hh hm26 (by rw[HS.out];exact h);have fin3:Hid (a≤r->r≤b->wid r=c):=fun h k=>by have:=wid_span r _ (spanAt_mem hm26) (by rw[HS.out];exact h) (by rw[HS.out];exact k);rw[HS.out]at this;exact this
    by_cases ha:r<a
    ·have h1:=fin1 ha;clear fin1 fin2 fin3 hh;go_wp2;go_round;case rel=>exact⟨lo,mid,by omega,by omega,rfl,by first|rfl|rw[hmid],h1⟩
     case measure=>simp[intOf];omega
    ·by_cases hb:b<r
     ·have h2:=fin2 hb;clear fin1 fin2 fin3 hh;go_wp2;go_round;case rel=>exact⟨mid+1,hi,by omega,by omega,by first|rfl|go_num|(rw[hmid];go_num),rfl,h2⟩
      case measure=>simp[intOf];omega
     ·have h3:=qH<|fin3 (by omega) (by omega);clear fin1 fin2 fin3 hh;go_wp2;go_ret;rw[h3.out];exact⟨rfl,rfl⟩
   ·have hlt':¬(lo:Int)<(hi:Int):=by omega
    have h3:=qH<|half_end hh (by omega) H10;clear hh;go_wp2;go_ret;rw[h3.out];exact⟨rfl,rfl⟩
theorem gEncode_none' a  cap  w :
 Calls prog 199 #[.slice a 0 cap] w fun e w'=>e=.returned (.string ⟨#[]⟩)∧Below w.heap.size w w':=by
 have hcv:=conv_own (l:=[]) (show w.ownsRow w.heap.size 5 1 (.slice none 0 0) 0 (Lib.byteCells [])from World.ownsRow_nil w w.heap.size 5 1);go_enter func199,ntmps199;go_wp2;go_loop[3,8] (fun v i=>v=.slice none 0 0∧i=Iq 0) (fun _ _=>0);case atStart=>exact⟨rfl,rfl⟩
 case round=>obtain⟨rfl,rfl⟩:=hrel;go_wp2;go_ret;exact⟨rfl,Below.refl _ _⟩
theorem gEncode_all zs  v  w (h:Ints w v zs)(hlen:zs.length≤17592186044416):
 Calls prog 199 #[v] w fun e w'=>e=.returned (.string ⟨(enc zs).toArray⟩)∧Below w.heap.size w w':=by
 obtain⟨a,cap,rfl,rfl|⟨b,off,rfl,hb,hc⟩⟩:=h;·exact gEncode_none' a cap w
 ·exact gEncode_some zs b off cap w hb hc hlen
theorem ints_own'{w}{B n}{v}{zs}(h:w.ownsRow B 3 1 v n (zs.map (Value.int .i64))):Ints w v zs:=by
 have hl:zs.length=n:=by have:=h.1;simpa using this
 rcases h.2 with⟨rfl,rfl⟩|⟨g,cap,cur,rfl,_,hg,_⟩;·have hz:=List.length_eq_zero_iff.1 hl;subst hz;exact⟨none,0,rfl,.inl rfl⟩
 ·refine⟨some ⟨g,0,none⟩,cap,by rw[hl],.inr ⟨g,0,rfl,(Array.getElem?_eq_some_iff.1 hg).1,fun j hj=>?_⟩⟩;have:=h.cells (g:=g) rfl j (Iq (zs[j]?.getD 0)) (by simp[hj]);have e:(⟨g,0,none⟩:Addr).add j=⟨g,0+j,none⟩:=by unfold Addr.add;split<;>simp_all
  rwa[e]at this
end
section
theorem isMk_ten:isMk 10=false:=by rw[isMk_false];simp
theorem isMk_blank:isMk 32=false:=by rw[isMk_false,wid_blank];simp
def cRunes(R:List Int):List Int:=match R with|[]=>[]|r::_=>if r=10 then[10]else cBase R::(cMarks R).take 4
theorem enc_ten:enc [10]=[10]:=by decide+kernel
theorem cText_enc R :cText R=enc (cRunes R):=by
 match R with
 |[]=>rfl
 |r::t=>
  simp only[cText,cRunes];split;·rw[enc_ten]
  ·rfl
def joined(l:List (List UInt8×Int)):List UInt8:=l.flatMap (·.1)
def NoMk(X:List Int):Prop:=∀x,X.head?=some x->isMk x=false
theorem mks_app M X (hM:∀m∈M,isMk m=true)(hX:NoMk X):mks (M++X)=M:=by
 unfold mks;rw[List.takeWhile_append_of_pos (fun a ha=>hM a ha)];cases X with
 |nil=>simp
 |cons x X=>have:=hX x rfl;simp[this]
theorem mks_mem L :∀m∈mks L,isMk m=true:=by
 unfold mks;induction L with
 |nil=>simp
 |cons a L ih=>
  intro m hm;by_cases ha:isMk a=true
  ·rw[List.takeWhile_cons,if_pos ha]at hm;rcases List.mem_cons.1 hm with rfl|hm;·exact ha
   ·exact ih m hm
  ·rw[List.takeWhile_cons,if_neg ha]at hm;cases hm
theorem cBase_no r  t :isMk (cBase (r::t))=false:=by
 simp only[cBase];split;·exact isMk_blank
 ·rename_i h;simpa using h
theorem cRunes_no{R}(h:R≠[]) X :NoMk (cRunes R++X):=by
 match R,h with
 |r::t,_=>
  intro x hx;simp only[cRunes]at hx;split at hx;·simp at hx;subst hx;exact isMk_ten
  ·simp at hx;subst hx;exact cBase_no r t
theorem cBase_ten{r}{t}(h:r≠10):cBase (r::t)≠10:=by
 simp only[cBase];split;·omega
 ·exact h
theorem clus_app{R}(h:R≠[]) X (hX:NoMk X):clus (cRunes R++X)=(cText R,cWide R)::clus X:=by
 match R,h with
 |r::t,_=>
  by_cases h10:r=10
  ·have e1:cRunes (r::t)=[10]:=by simp only[cRunes,if_pos h10]
   have e2:cText (r::t)=[10]:=by simp only[cText,if_pos h10]
   have e3:cWide (r::t)=0:=by simp only[cWide,if_pos h10]
   rw[e1,e2,e3];show clus (10::X)=_;rw[clus_step (by simp)];simp[cText,cWide,cNum]
  ·have e1:cRunes (r::t)=cBase (r::t)::(cMarks (r::t)).take 4:=by simp only[cRunes,if_neg h10]
   have e2:cText (r::t)=enc (cBase (r::t)::(cMarks (r::t)).take 4):=by simp only[cText,if_neg h10]
   have e3:cWide (r::t)=wid (cBase (r::t)):=by simp only[cWide,if_neg h10]
   have hb:=cBase_no r t;have hb10:=cBase_ten (t:=t) h10;have hM:∀m∈(cMarks (r::t)).take 4,isMk m=true:=fun m hm=>mks_mem _ m (List.mem_of_mem_take hm);have hM4:((cMarks (r::t)).take 4).length≤4:=by rw[List.length_take];omega
   rw[e1,e2,e3];generalize cBase (r::t)=B at*;generalize(cMarks (r::t)).take 4=M at*;have hb':¬isMk B=true:=by rw[hb];simp
   rw[List.cons_append,clus_step (by simp)];have o1:cOwn (B::(M++X))=1:=by simp only[cOwn,if_neg hb']
   have o2:cBase (B::(M++X))=B:=by simp only[cBase,if_neg hb']
   have o3:cMarks (B::(M++X))=M:=by unfold cMarks;rw[o1];exact mks_app M X hM hX
   have o4:cNum (B::(M++X))=1+M.length:=by simp only[cNum,if_neg hb10,o1,o3]
   have o5:cText (B::(M++X))=enc (B::M):=by simp only[cText,if_neg hb10,o2,o3];rw[List.take_of_length_le hM4]
   have o6:cWide (B::(M++X))=wid B:=by simp only[cWide,if_neg hb10,o2]
   rw[o4,o5,o6,Nat.add_comm,List.drop_succ_cons,List.drop_left]
theorem good_blank:Good 32:=⟨.inl (by omega),rfl⟩
theorem good_ten:Good 10:=⟨.inl (by omega),rfl⟩
theorem cRunes_good R (h:∀r∈R,Good r):∀r∈cRunes R,Good r:=by
 match R with
 |[]=>intro r hr;simp[cRunes]at hr
 |r::t=>
  intro x hx;simp only[cRunes]at hx;split at hx;·simp at hx;subst hx;exact good_ten
  ·rcases List.mem_cons.1 hx with rfl|hx
   ·simp only[cBase];split;·exact good_blank
    ·exact h r (by simp)
   ·have h1:=List.mem_of_mem_take hx;unfold cMarks mks at h1;have h2:=(List.takeWhile_sublist _).subset h1;exact h x (List.mem_of_mem_drop h2)
theorem cRunes_length R :(cRunes R).length≤5:=by
 match R with
 |[]=>simp[cRunes]
 |r::t=>
  simp only[cRunes];split;·simp
  ·simp only[List.length_cons,List.length_take];omega
theorem joined_snoc(l:List (List UInt8×Int)) k  h :joined (l.take (k+1))=joined (l.take k)++(l[k]'h).1:=by unfold joined;rw[List.take_succ_eq_append_getElem h,List.flatMap_append];simp
theorem joined_take_le l  k :(joined (l.take k)).length≤(joined l).length:=by
 unfold joined;have e:=(List.take_append_drop k l).symm;have:(l.flatMap (·.1)).length=((l.take k).flatMap (·.1)).length+((l.drop k).flatMap (·.1)).length:=by rw[<-List.length_append,<-List.flatMap_append,List.take_append_drop]
 omega
end
section
def tx(l:List (List UInt8×Int))(n:Nat):List UInt8:=(l[n]?.map (·.1)).getD []
theorem tx_at{l}{n}(h:n<l.length):tx l n=(l[n]).1:=by simp[tx,h]
theorem tx_drop l  a n :tx (l.drop a) n=tx l (a+n):=by simp[tx,List.getElem?_drop]
theorem wideSum_cons c  b :wideSum (c::b)=c.2+wideSum b:=by simp[wideSum]
theorem joined_cons c  b :joined (c::b)=c.1++joined b:=by simp[joined]
def fitN:List (List UInt8×Int)->Int->Nat
 |[],_=>0
 |c::t,w=>if c.1=[10]∨w<c.2 then 0 else fitN t (w-c.2)+1
theorem fitN_le:∀ l   w ,fitN l w≤l.length
 |[],_=>Nat.le_refl _
 |c::t,w=>by
  simp only[fitN];split;·simp
  ·have:=fitN_le t (w-c.2);simp;omega
def Fit(l:List (List UInt8×Int))(w:Int)(k:Nat):Prop:=∀j,j<k->tx l j≠[10]∧wideSum (l.take (j+1))≤w
theorem fitN_stop:∀ l   w   k ,k≤l.length->Fit l w k->(k<l.length->tx l k=[10]∨w<wideSum (l.take (k+1)))->fitN l w=k
 |[],w,k,hk,_,_=>by simp only[List.length_nil]at hk;simp only[fitN];omega
 |c::t,w,0,_,_,he=>by have:=he (by simp);simp only[tx,List.take_succ_cons,List.take_zero,wideSum_cons,List.getElem?_cons_zero,Option.map_some,Option.getD_some,show wideSum []=0 from rfl,Int.add_zero]at this;simp only[fitN,if_pos this]
 |c::t,w,k+1,hk,hf,he=>by
  have h0:=hf 0 (by omega);simp only[tx,List.take_succ_cons,List.take_zero,wideSum_cons,List.getElem?_cons_zero,Option.map_some,Option.getD_some,show wideSum []=0 from rfl,Int.add_zero]at h0;have hn:¬(c.1=[10]∨w<c.2):=by rintro(h|h);exact h0.1 h;omega
  simp only[fitN,if_neg hn];rw[fitN_stop t (w-c.2) k (by simpa using hk) (fun j hj=>by have:=hf (j+1) (by omega);rw[List.take_succ_cons,wideSum_cons]at this;exact⟨by simpa[tx]using this.1,by omega⟩) (fun h=>by
   have:=he (by simpa using h);rw[List.take_succ_cons,wideSum_cons]at this;rcases this with h|h;·exact .inl (by simpa[tx]using h)
   ·exact .inr (by omega))]
theorem fitN_spec:∀ l   w ,(∀c∈l,0≤c.2∧c.2≤2)->Fit l w (fitN l w)∧(fitN l w<l.length->tx l (fitN l w)=[10]∨w<wideSum (l.take (fitN l w+1)))
 |[],w,_=>⟨fun j hj=>by simp[fitN]at hj,fun h=>by simp at h⟩
 |c::t,w,hb=>by
  by_cases h:c.1=[10]∨w<c.2;·simp only[fitN,if_pos h];refine⟨fun j hj=>by omega,fun _=>?_⟩;simpa[tx,wideSum]using h
  ·have ih:=fitN_spec t (w-c.2) (fun x hx=>hb x (by simp[hx]));simp only[fitN,if_neg h];have h':=not_or.1 h;refine⟨fun j hj=>?_,fun hl=>?_⟩;·cases j with
    |zero=>simp[tx,wideSum];exact⟨h'.1,by omega⟩
    |succ j=>have:=ih.1 j (by omega);rw[List.take_succ_cons,wideSum_cons];exact⟨by simpa[tx]using this.1,by omega⟩
   ·have:=ih.2 (by simpa using hl);rw[List.take_succ_cons,wideSum_cons];rcases this with h|h;·exact .inl (by simpa[tx]using h)
    ·exact .inr (by omega)
def lastB(l:List (List UInt8×Int)):Nat->Int
 |0=>-1
 |n+1=>if tx l n=[32]then n else lastB l n
theorem lastB_lt l :∀n,lastB l n<n∧-1≤lastB l n
 |0=>by simp[lastB]
 |n+1=>by have:=lastB_lt l n;simp only[lastB];split<;>omega
structure Cutt where
 n:Nat
 d:Nat
 e:Int
def firstL(r:List (List UInt8×Int))(w:Int):Cutt:=
 if fitN r w=r.length then⟨fitN r w,0,3⟩
 else if tx r (fitN r w)=[10]then⟨fitN r w,1,2⟩
 else if fitN r w=0 then⟨1,0,1⟩
 else if tx r (fitN r w)=[32]then⟨fitN r w,1,0⟩
 else if 0≤lastB r (fitN r w)then⟨(lastB r (fitN r w)).toNat,1,0⟩
 else⟨fitN r w,0,1⟩
theorem firstL_le r  w :(firstL r w).n+(firstL r w).d≤r.length:=by
 have h:=fitN_le r w;have hb:=lastB_lt r (fitN r w);unfold firstL;repeat' split
 all_goals(simp only;omega)
theorem firstL_pos r  w :(firstL r w).e=3∨1≤(firstL r w).n+(firstL r w).d:=by
 unfold firstL;repeat' split
 all_goals(first|exact .inl rfl|(refine .inr ?_;simp only;omega))
structure Ln where
 T:List UInt8
 W:Int
 F:Nat
 N:Nat
 E:Int
def lnAt(l:List (List UInt8×Int))(w:Int)(a:Nat):Ln:=
 let c:=firstL (l.drop a) w
 let r:=(l.drop a).take c.n
 if w<wideSum r then⟨List.replicate w.toNat 32,w,a,1,c.e⟩else⟨joined r,wideSum r,a,r.length,c.e⟩
def nxt(l:List (List UInt8×Int))(w:Int)(a:Nat):Nat:=a+(firstL (l.drop a) w).n+(firstL (l.drop a) w).d
theorem nxt_le l  w  a (h:a≤l.length):nxt l w a≤l.length:=by have:=firstL_le (l.drop a) w;rw[List.length_drop]at this;unfold nxt;omega
theorem lnAt_E l  w  a :(lnAt l w a).E=(firstL (l.drop a) w).e:=by simp only[lnAt];split<;>rfl
theorem nxt_lt l  w  a (h:(lnAt l w a).E≠3):a<nxt l w a:=by rw[lnAt_E]at h;have:=(firstL_pos (l.drop a) w).resolve_left h;unfold nxt;omega
def linesF:Nat->List (List UInt8×Int)->Int->Nat->List Ln
 |0,_,_,_=>[]
 |f+1,l,w,a=>if(lnAt l w a).E=3 then[lnAt l w a]else lnAt l w a::linesF f l w (nxt l w a)
theorem linesF_enough:∀ f g   l   w   a ,a≤l.length->l.length<f+a->l.length<g+a->linesF f l w a=linesF g l w a
 |0,_,_,_,_,_,h,_=>by omega
 |_+1,0,_,_,_,_,_,h=>by omega
 |f+1,g+1,l,w,a,ha,hf,hg=>by
  simp only[linesF];split;·rfl
  ·rename_i he;have:=nxt_lt l w a he;rw[linesF_enough f g l w (nxt l w a) (nxt_le l w a ha) (by omega) (by omega)]
def linesA(l:List (List UInt8×Int))(w:Int)(a:Nat):List Ln:=linesF (l.length+1-a) l w a
theorem linesA_end{l}{w}{a}(ha:a≤l.length)(h:(lnAt l w a).E=3):linesA l w a=[lnAt l w a]:=by unfold linesA;rw[show l.length+1-a=(l.length-a)+1 by omega];simp only[linesF,if_pos h]
theorem linesA_step{l}{w}{a}(ha:a≤l.length)(h:(lnAt l w a).E≠3):linesA l w a=lnAt l w a::linesA l w (nxt l w a):=by have h1:=nxt_lt l w a h;have h2:=nxt_le l w a ha;unfold linesA;rw[show l.length+1-a=(l.length-a)+1 by omega];simp only[linesF,if_neg h];rw[linesF_enough (l.length-a) (l.length+1-nxt l w a) l w (nxt l w a) h2 (by omega) (by omega)]
theorem linesA_length l  w  a (ha:a≤l.length):1≤(linesA l w a).length∧(linesA l w a).length≤l.length+1-a:=by
 generalize hn:l.length-a=n;induction n using Nat.strongRecOn generalizing a with
 |_ n ih=>
  by_cases h:(lnAt l w a).E=3;·rw[linesA_end ha h];simp;omega
  ·have h1:=nxt_lt l w a h;have h2:=nxt_le l w a ha;rw[linesA_step ha h];have:=ih (l.length-nxt l w a) (by omega) (nxt l w a) h2 rfl;simp only[List.length_cons];omega
def linesOf(l:List (List UInt8×Int))(w:Int):List Ln:=if w<1 then[]else linesA l w 0
end
section
theorem str_app(a b:List UInt8):(⟨a.toArray⟩:ByteArray)++(⟨b.toArray⟩:ByteArray)=⟨(a++b).toArray⟩:=by apply ByteArray.ext;simp
def Nrm(c:List UInt8×Int):Prop:=∃X,(∀r∈X,Good r)∧X≠[]∧NoMk X∧enc X=c.1∧∀Y,NoMk Y->clus (X++Y)=c::clus Y
theorem clus_nrm R (hg:∀r∈R,Good r):∀c∈clus R,Nrm c:=by
 generalize hn:R.length=n;induction n using Nat.strongRecOn generalizing R with
 |_ n ih=>
  by_cases h:R=[];·subst h;rw[clus_nil];simp
  ·have hp:=cNum_pos h;have hl:=List.length_pos_iff.2 h;rw[clus_step h];intro c hc;rcases List.mem_cons.1 hc with rfl|hc
   ·have hne:cRunes R≠[]:=by
     match R,h with
     |r::t,_=>simp only[cRunes];split<;>simp
    exact⟨cRunes R,cRunes_good R hg,hne,by simpa using cRunes_no h [],(cText_enc R).symm,fun Y hY=>clus_app h Y hY⟩
   ·exact ih (R.drop (cNum R)).length (by rw[List.length_drop];omega) _ (fun x hx=>hg x (List.mem_of_mem_drop hx)) rfl c hc
def one(l:List (List UInt8×Int)):List (List UInt8×Int):=l.map fun c=>if c.1=[10]then([32],1)else c
theorem clus_short R :∀c∈clus R,c.1.length≤20:=by
 generalize hn:R.length=n;induction n using Nat.strongRecOn generalizing R with
 |_ n ih=>
  by_cases h:R=[];·subst h;rw[clus_nil];simp
  ·have hp:=cNum_pos h;have hl:=List.length_pos_iff.2 h;rw[clus_step h];intro c hc;rcases List.mem_cons.1 hc with rfl|hc;·show(cText R).length≤20;rw[cText_enc];have a:=enc_le (cRunes R);have b:=cRunes_length R;omega
   ·exact ih (R.drop (cNum R)).length (by rw[List.length_drop];omega) _ rfl c hc
theorem joined_bd:∀ l ,(∀c∈l,c.1.length≤20)->(joined l).length≤20*l.length
 |[],_=>by simp[joined]
 |c::l,h=>by have a:=joined_bd l (fun x hx=>h x (by simp[hx]));have b:=h c (by simp);rw[joined_cons,List.length_append,List.length_cons];omega
end
section
theorem take_wide_le(l:List (List UInt8×Int))(h:∀c∈l,0≤c.2∧c.2≤2){j k}(hjk:j≤k):wideSum (l.take j)≤wideSum (l.take k):=by
  induction k with
  | zero => have :j=0:=by omega
            subst this;exact Int.le_refl _
  |succ k ih=>
    by_cases e:j=k+1;·subst e;exact Int.le_refl _
    · have:=ih (by omega);by_cases hk:k<l.length;·rw[wideSum_snoc l k hk];have:=h l[k] (List.getElem_mem hk);omega
      ·rw[List.take_of_length_le (show l.length≤k+1 by omega)];rw[List.take_of_length_le (show l.length≤k by omega)]at this;exact this
theorem fit_wide(r:List (List UInt8×Int)) w (h:∀c∈r,0≤c.2∧c.2≤2)(hw:1≤w):wideSum (r.take (fitN r w))≤w:=by
 have sp:=(fitN_spec r w h).1;cases hf:fitN r w with
 |zero=>show(0:Int)≤w;omega
 |succ n=>exact(sp n (by omega)).2
theorem take1_bd(r:List (List UInt8×Int))(h:∀c∈r,0≤c.2∧c.2≤2):wideSum (r.take 1)≤2:=by have:=(wideSum_bd r h 1).2;omega
end
section
open Go.RowKit Go.Proofs.Tryz
theorem ints_lit(w:World) zs  cs  cap (h:cs=(zs.map (Value.int .i64)).toArray):Ints (w.alloc (.cells cs 3)) (Sq w.heap.size zs.length cap) zs:=by subst h;refine⟨_,cap,rfl,.inr ⟨w.heap.size,0,rfl,by simp,fun j hj=>?_⟩⟩;rw[World.cell?_alloc_mark];simp[hj]
theorem zeros_any w :
 Calls prog 144 #[] w fun e w'=>∃v,e=.returned v∧Ints w' v (flat zerosL)∧Below w.heap.size w w':=by go_enter func144,ntmps144;go_wp2;go_ret;exact⟨_,rfl,ints_lit w (flat zerosL) _ 26 rfl,(Below.refl _ _).alloc (Nat.le_refl _) _⟩
theorem wides_any w :
 Calls prog 145 #[] w fun e w'=>∃v,e=.returned v∧Ints w' v (flat widesL)∧Below w.heap.size w w':=by go_enter func145,ntmps145;go_wp2;go_ret;exact⟨_,rfl,ints_lit w (flat widesL) _ 28 rfl,(Below.refl _ _).alloc (Nat.le_refl _) _⟩
theorem inside_some r  l (hl:l.length≤1000) b off cap  w (hc:∀j,j<(flat l).length->w.cell? ⟨b,off+j,none⟩=some (Iq ((flat l)[j]?.getD 0))):
 Calls prog 143 #[Iq r,.slice (some ⟨b,off,none⟩) (flat l).length cap] w fun e w'=>e=.returned (.bool (inL r l))∧w'=w:=by
 have HC:=qH<|hc;clear hc;have hfl:=flat_length l;have HFL:=qH<|hfl;rw[hfl];clear hfl;go_enter func143,ntmps143;go_wp2;go_loop[5] (fun i=>∃k:Nat,k≤l.length∧i=Iq (2*k:Nat)∧Hid (∀j,j<k->¬((l.getD j (0,0)).1≤r∧r≤(l.getD j (0,0)).2))) (fun i=>2*l.length-(intOf i).toNat);case atStart=>exact⟨0,Nat.zero_le _,rfl,fun j h=>by omega⟩
 case round=>
  obtain⟨k,hk,rfl,hno⟩:=hrel;by_cases hlt:k<l.length
  ·have hlt':(2*(k:Int))+1<2*(l.length:Int):=by omega
   obtain⟨p,q,hp⟩:∃p q,l.getD k (0,0)=(p,q):=⟨_,_,rfl⟩;have f:=flat_at l k;rw[hp]at f;have c0:w.cell? ⟨b,off+2*k,none⟩=some (Iq p):=by rw[HC (2*k) (by rw[HFL.out];omega),f.1]
   have c1:w.cell? ⟨b,off+(2*k+1),none⟩=some (Iq q):=by rw[HC (2*k+1) (by rw[HFL.out];omega),f.2]
   have HP:=qH<|hp;have hmem:(p,q)∈l:=by rw[<-hp,List.getD_eq_getElem?_getD,List.getElem?_eq_getElem hlt];exact List.getElem_mem hlt
   have HM:=qH<|hmem;clear f hp hmem;by_cases h1:p≤r
   ·by_cases h2:r≤q;·have e:=qH<|(inL_iff r l).2 ⟨_,HM,h1,h2⟩;go_wp2;go_ret;rw[e.out];exact⟨rfl,rfl⟩
    ·go_wp2;go_round;case rel=>
      refine⟨k+1,by omega,by go_num,fun j hj=>?_⟩;by_cases ej:j=k;·subst ej;rw[HP.out];omega
      ·exact hno j (by omega)
     case measure=>simp[intOf];omega
   ·go_wp2;go_round;case rel=>
     refine⟨k+1,by omega,by go_num,fun j hj=>?_⟩;by_cases ej:j=k;·subst ej;rw[HP.out];omega
     ·exact hno j (by omega)
    case measure=>simp[intOf];omega
  ·have hlt':¬(2*(k:Int))+1<2*(l.length:Int):=by omega
   have e:Hid (inL r l=false):=by show _=_;rw[Bool.eq_false_iff];intro h;obtain⟨p,hp,a⟩:=(inL_iff r l).1 h;obtain⟨j,hj,rfl⟩:=List.mem_iff_getElem.1 hp;have:=hno j (by omega);rw[List.getD_eq_getElem?_getD,List.getElem?_eq_getElem hj]at this;exact this a
   go_wp2;go_ret;rw[e.out];exact⟨rfl,rfl⟩
theorem inside_any r  l (hl:l.length≤1000)(hl0:0<l.length) v  w (h:Ints w v (flat l)):
 Calls prog 143 #[Iq r,v] w fun e w'=>e=.returned (.bool (inL r l))∧w'=w:=by
 obtain⟨a,cap,rfl,hh⟩:=h;have hne:flat l≠[]:=fun e=>by have:=flat_length l;rw[e]at this;simp at this;omega
 obtain⟨b,off,rfl,hb,hc⟩:=hh.resolve_left hne;exact inside_some r l hl b off cap w hc
theorem rWidth_any r  w :
 Calls prog 88 #[Iq r] w fun e w'=>e=.returned (Iq (wid r))∧Below w.heap.size w w':=by
 unfold wid;by_cases hz:inL r zerosL=true;·rw[if_pos hz];have HZ:=qH<|hz;clear hz;go_enter func88,ntmps88;go_wp2_with fail;refine(zeros_any _).mono ?_;rintro e w1 ⟨v1,rfl,I1,b1⟩;go_wp2_with fail;refine(inside_any r zerosL (by decide) (by decide) _ _ I1).mono ?_;rintro e w2 ⟨rfl,rfl⟩;rw[HZ.out];go_wp2;go_ret;exact⟨rfl,b1⟩
 ·have HZ:Hid (inL r zerosL=false):=by show _=_;simpa using hz
  rw[if_neg hz];clear hz;by_cases hw:inL r widesL=true;·rw[if_pos hw];have HW:=qH<|hw;clear hw;go_enter func88,ntmps88;go_wp2_with fail;refine(zeros_any _).mono ?_;rintro e w1 ⟨v1,rfl,I1,b1⟩;go_wp2_with fail;refine(inside_any r zerosL (by decide) (by decide) _ _ I1).mono ?_;rintro e w2 ⟨rfl,rfl⟩;rw[HZ.out];clear I1;go_wp2_with fail;refine(wides_any _).mono ?_;rintro e w3 ⟨v3,rfl,I3,b3⟩;go_wp2_with fail;refine(inside_any r widesL (by decide) (by decide) _ _ I3).mono ?_;rintro e w4 ⟨rfl,rfl⟩;rw[HW.out];go_wp2;go_ret;exact⟨rfl,b1.trans (b3.mono b1.size)⟩
  ·rw[if_neg hw];have HW:Hid (inL r widesL=false):=by show _=_;simpa using hw
   clear hw;go_enter func88,ntmps88;go_wp2_with fail;refine(zeros_any _).mono ?_;rintro e w1 ⟨v1,rfl,I1,b1⟩;go_wp2_with fail;refine(inside_any r zerosL (by decide) (by decide) _ _ I1).mono ?_;rintro e w2 ⟨rfl,rfl⟩;rw[HZ.out];clear I1;go_wp2_with fail;refine(wides_any _).mono ?_;rintro e w3 ⟨v3,rfl,I3,b3⟩;go_wp2_with fail;refine(inside_any r widesL (by decide) (by decide) _ _ I3).mono ?_;rintro e w4 ⟨rfl,rfl⟩;rw[HW.out];go_wp2;go_ret;exact⟨rfl,b1.trans (b3.mono b1.size)⟩
