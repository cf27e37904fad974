import Derived.Shelf.Utf8.AppendRunePlain
import Derived.Test.YtmbefonnkkhfgaaGreatDoorProg
import Derived.WalkKit
import Derived.Test.YtmbefonnkkhfgaaGreatDoorQ00
import Derived.Test.YtmbefonnkkhfgaaGreatDoorQ06
import Derived.Laws.IdiomStrings
import Derived.Lib.BufferRead
import Derived.Test.YtmbefonnkkhfgaaGreatDoorQ01
set_option linter.unusedVariables false
set_option maxRecDepth 100000
set_option maxHeartbeats 16000000
namespace Go.Proofs.YtmbefonnkkhfgaaGreatDoor
section
open Go.Shelf Go.RowKit Go.Proofs.Tryz
def lays242_ren:Go.Shelf.Ren:=⟨fun|242=>70|278=>132|n=>n,fun|37=>134|21=>21|51=>183|4=>4|5=>5|46=>125|n=>n,fun|n=>n⟩
theorem lays242:Go.Proofs.Lays.n242 prog lays242_ren:={
 mixed:=by kernel_rfl
 f242:=func70.trans (congrArg some (by kernel_rfl))
 f278:=func132.trans (congrArg some (by kernel_rfl))
 t4:=underlying4
 a4:=isAgg4
 z4:=sizeOf4
 v4:=zeroValue4
 t5:=underlying5
 a5:=isAgg5
 z5:=sizeOf5
 v5:=zeroValue5
 t21:=underlying21
 a21:=isAgg21
 z21:=sizeOf21
 v21:=zeroValue21
 t37:=underlying134
 a37:=isAgg134
 z37:=sizeOf134
 v37:=zeroValue134
 t46:=underlying125
 a46:=isAgg125
 z46:=sizeOf125
 v46:=zeroValue125
 t51:=underlying183
 a51:=isAgg183
 z51:=sizeOf183
 v51:=zeroValue183}
theorem appendRune_any(B:Nat)(v:Value)(n:Nat)(xs:List Value)(r:Int)(hr0:-2147483648≤r)(hr1:r≤2147483647)(w:World)(hown:w.ownsRow B 5 1 v n xs)(hlen:n+4≤140737488355328)(hBw:B≤w.heap.size):
 Calls prog 70 #[v,.int .i32 r] w fun e w'=>∃v',e=.returned v'∧w'.ownsRow B 5 1 v' (n+(Lib.runeCells r).length) (xs++Lib.runeCells r)∧∃o,(w.alloc o).grownBy w' v.ownBlock:=Any.utf8_AppendRune_plain lays242 (by kernel_rfl) B v n xs r hr0 hr1 w hown hlen hBw
end
section
open Go.RowKit
def Ints(w:World)(v:Value)(zs:List Int):Prop:=
 ∃a cap,v=.slice a zs.length cap∧(zs=[]∨∃b off,a=some ⟨b,off,none⟩∧b<w.heap.size∧∀j,j<zs.length->w.cell? ⟨b,off+j,none⟩=some (Iq (zs[j]?.getD 0)))
end
section
open Go.RowKit Go.Proofs.Tryz
def enc(zs:List Int):List UInt8:=zs.flatMap Lib.encodeRune
theorem enc_snoc(zs:List Int)(k:Nat)(h:k<zs.length):enc (zs.take (k+1))=enc (zs.take k)++Lib.encodeRune (zs[k]?.getD 0):=by unfold enc;rw[List.take_succ_eq_append_getElem h,List.flatMap_append];simp[h]
theorem encodeRune_le(r:Int):(Lib.encodeRune r).length≤4:=by have:=(Lib.runeCells_le r).2;rwa[Lib.runeCells_length]at this
theorem enc_le(zs:List Int):(enc zs).length≤4*zs.length:=by
 induction zs with
 |nil=>simp[enc]
 |cons z zs ih=>have:=encodeRune_le z;unfold enc at*;simp only[List.flatMap_cons,List.length_append,List.length_cons];omega
theorem take_le(zs:List Int)(k:Nat)(h:k≤zs.length):(enc (zs.take k)).length≤4*k:=by have:=enc_le (zs.take k);rw[List.length_take,Nat.min_eq_left h]at this;exact this
theorem encodeRune_runeI(n:Int):Lib.encodeRune (runeI n)=Lib.encodeRune n:=by unfold Lib.encodeRune;rw[encode_runeI]
theorem conv_own{w:World}{B n:Nat}{v:Value}{l:List UInt8}(h:w.ownsRow B 5 1 v n (Lib.byteCells l)):
 (convert 134 9 v).run prog w=.ok (.string ⟨l.toArray⟩) w:=by
 obtain⟨hl,h2⟩:=h;rw[Lib.byteCells_length]at hl;rcases h2 with⟨rfl,rfl⟩|⟨g,cap,cur,rfl,_,hg,_,_,_,htake⟩;·have:l=[]:=List.length_eq_zero_iff.1 (by omega);subst this;exact Lib.run_convert_nil_bytes w 134 9 5 0 underlying134 underlying5 underlying9
 ·have e:n=l.length:=by omega
  subst e;exact run_convert_bytes_back w 134 9 5 ⟨g,0,none⟩ cap l underlying134 underlying5 underlying9 (Lib.bytes_of_row hg (by rw[Nat.mul_one]at htake;exact htake))
theorem own_snoc{w:World}{B:Nat}{v:Value}{l:List UInt8}{r:Int}(h:w.ownsRow B 5 1 v (l.length+(Lib.runeCells r).length) (Lib.byteCells l++Lib.runeCells r)):
 w.ownsRow B 5 1 v (l++Lib.encodeRune r).length (Lib.byteCells (l++Lib.encodeRune r)):=by rw[Lib.byteCells_append,Lib.byteCells_encodeRune,List.length_append,<-Lib.runeCells_length];exact h
theorem gEncode_some(zs:List Int)(b off cap:Nat)(w:World)(hb:b<w.heap.size)(hc:∀j,j<zs.length->w.cell? ⟨b,off+j,none⟩=some (Iq (zs[j]?.getD 0)))(hlen:zs.length≤17592186044416):
 Calls prog 40 #[.slice (some ⟨b,off,none⟩) zs.length cap] w fun e w'=>e=.returned (.string ⟨(enc zs).toArray⟩)∧Below w.heap.size w w':=by
 have HC:=qH<|hc;clear hc;go_enter func40,ntmps40;go_wp2;go_loopw[3,8] (fun v i wr=>∃k:Nat,k≤zs.length∧i=Iq k∧wr.ownsRow w.heap.size 5 1 v (enc (zs.take k)).length (Lib.byteCells (enc (zs.take k)))∧Below w.heap.size w wr) (fun _ i _=>zs.length-(intOf i).toNat);case atStart=>exact⟨0,Nat.zero_le _,rfl,by simpa[enc,Lib.byteCells]using World.ownsRow_nil _ _ _ _,Below.refl _ _⟩
 case round=>
  obtain⟨k,hk,rfl,hown,hnx⟩:=hrel;have hte:=take_le zs k hk;by_cases hlt:k<zs.length
  ·obtain⟨x,hx⟩:=nmd (zs[k]?.getD 0);have hcx:wr.cell? ⟨b,off+k,none⟩=some (Iq x):=by rw[<-hx];exact(hnx.cell (p:=⟨b,off+k,none⟩) hb).trans (HC k hlt)
   have hr:=runeI_bd x;have hsz:=hnx.size;have HX:Hid (enc (zs.take (k+1))=enc (zs.take k)++Lib.encodeRune (runeI x)):=by show _=_;rw[enc_snoc zs k hlt,hx,encodeRune_runeI]
   clear hx;have hlt':(k:Int)<(zs.length:Int):=by omega
   go_wp2_with(first|(go_at_call 71;refine(runeOf_any _ _).mono ?_;rintro e w' ⟨rfl,rfl⟩)|(go_at_call 70;refine(appendRune_any w.heap.size _ _ _ _ (by omega) (by omega) _ hown (by omega) hsz).mono ?_));rintro e W1 ⟨v',rfl,hown',o,hg⟩;have hrow:=fun q hq=>(hown.lt q hq).1;have hb1:=(hnx.alloc hsz o).grown hg (by simp;omega) hrow;clear hcx hown hg hrow hnx;go_wp2;go_roundw;case rel=>refine⟨k+1,by omega,by go_num,?_,hb1⟩;rw[HX.out];exact own_snoc hown'
   case measure=>simp[intOf];omega
  ·have ek:k=zs.length:=by omega
   have hlt':¬(k:Int)<(zs.length:Int):=by omega
   rw[ek,List.take_length]at hown;have hcv:=conv_own hown;clear ek;go_wp2;go_ret;exact⟨rfl,hnx⟩
end
section
def Sc(r:Int):Prop:=(0≤r∧r<55296)∨(57343<r∧r≤1114111)
def Good(r:Int):Prop:=Sc r∧shownI r=r
theorem byt_app(l t:List UInt8)(k:Nat)(h:k<l.length):byt (l++t) k=(l.getD k 0).toNat:=by unfold byt;rw[List.getD_eq_getElem?_getD,List.getD_eq_getElem?_getD,List.getElem?_append_left h]
theorem u8n(x:Int)(h0:0≤x)(h1:x<256):(x.toNat.toUInt8).toNat=x.toNat:=by simp;omega
theorem dec_enc(r:Int)(h:Sc r)(t:List UInt8):dec (Lib.encodeRune r++t)=(r.toNat,(Lib.encodeRune r).length):=by
 unfold Sc at h;by_cases a:0≤r∧r≤127
 ·have e:Lib.encodeRune r=[r.toNat.toUInt8]:=by unfold Lib.encodeRune;rw[Lib.encodeRuneZ_one a.1 a.2];rfl
  rw[e];have b0:byt ([r.toNat.toUInt8]++t) 0=r.toNat:=by rw[byt_app _ _ _ (by simp)];exact u8n r (by omega) (by omega)
  rw[dec_one _ (by rw[b0];omega),b0];rfl
 by_cases b:128≤r∧r≤2047
 ·have e:Lib.encodeRune r=[(192+r/64).toNat.toUInt8,(128+r %64).toNat.toUInt8]:=by unfold Lib.encodeRune;rw[Lib.encodeRuneZ_two b.1 b.2];rfl
  rw[e];generalize hl:[(192+r/64).toNat.toUInt8,(128+r %64).toNat.toUInt8]++t=l;have b0:byt l 0=(192+r/64).toNat:=by rw[<-hl,byt_app _ _ _ (by simp)];exact u8n _ (by omega) (by omega)
  have b1:byt l 1=(128+r %64).toNat:=by rw[<-hl,byt_app _ _ _ (by simp)];exact u8n _ (by omega) (by omega)
  have c1:=(cnt_iff l 1).2 ⟨by rw[<-hl];simp,by omega,by omega⟩;unfold dec;rw[if_neg (by omega),if_pos (by rw[c1,b0];simp;omega),if_pos (by omega),b0,b1];simp;omega
 by_cases c:(2048≤r∧r<55296)∨(57343<r∧r≤65535)
 ·have e:Lib.encodeRune r=[(224+r/4096).toNat.toUInt8,(128+r/64 %64).toNat.toUInt8,(128+r %64).toNat.toUInt8]:=by unfold Lib.encodeRune;rw[Lib.encodeRuneZ_three c];rfl
  rw[e];generalize hl:[(224+r/4096).toNat.toUInt8,(128+r/64 %64).toNat.toUInt8,(128+r %64).toNat.toUInt8]++t=l;have b0:byt l 0=(224+r/4096).toNat:=by rw[<-hl,byt_app _ _ _ (by simp)];exact u8n _ (by omega) (by omega)
  have b1:byt l 1=(128+r/64 %64).toNat:=by rw[<-hl,byt_app _ _ _ (by simp)];exact u8n _ (by omega) (by omega)
  have b2:byt l 2=(128+r %64).toNat:=by rw[<-hl,byt_app _ _ _ (by simp)];exact u8n _ (by omega) (by omega)
  have c1:=(cnt_iff l 1).2 ⟨by rw[<-hl];simp,by omega,by omega⟩;have c2:=(cnt_iff l 2).2 ⟨by rw[<-hl];simp,by omega,by omega⟩;have hv:byt l 0 %16*4096+byt l 1 %64*64+byt l 2 %64=r.toNat:=by omega
  have g2:¬(byt l 0/32==6&&cnt l 1)=true:=by simp;omega
  have g3:(byt l 0/16==14&&cnt l 1&&cnt l 2)=true:=by simp[c1,c2];omega
  unfold dec;rw[if_neg (by omega),if_neg g2,if_pos g3,hv,if_pos];·rfl
  ·simp only[Bool.and_eq_true,decide_eq_true_eq,valid_nat];omega
 ·have d:65536≤r∧r≤1114111:=by omega
  have e:Lib.encodeRune r=[(240+r/262144).toNat.toUInt8,(128+r/4096 %64).toNat.toUInt8,(128+r/64 %64).toNat.toUInt8,(128+r %64).toNat.toUInt8]:=by unfold Lib.encodeRune;rw[Lib.encodeRuneZ_four d.1 d.2];rfl
  rw[e];generalize hl:[(240+r/262144).toNat.toUInt8,(128+r/4096 %64).toNat.toUInt8,(128+r/64 %64).toNat.toUInt8,(128+r %64).toNat.toUInt8]++t=l;have b0:byt l 0=(240+r/262144).toNat:=by rw[<-hl,byt_app _ _ _ (by simp)];exact u8n _ (by omega) (by omega)
  have b1:byt l 1=(128+r/4096 %64).toNat:=by rw[<-hl,byt_app _ _ _ (by simp)];exact u8n _ (by omega) (by omega)
  have b2:byt l 2=(128+r/64 %64).toNat:=by rw[<-hl,byt_app _ _ _ (by simp)];exact u8n _ (by omega) (by omega)
  have b3:byt l 3=(128+r %64).toNat:=by rw[<-hl,byt_app _ _ _ (by simp)];exact u8n _ (by omega) (by omega)
  have c1:=(cnt_iff l 1).2 ⟨by rw[<-hl];simp,by omega,by omega⟩;have c2:=(cnt_iff l 2).2 ⟨by rw[<-hl];simp,by omega,by omega⟩;have c3:=(cnt_iff l 3).2 ⟨by rw[<-hl];simp,by omega,by omega⟩;have hv:byt l 0 %8*262144+byt l 1 %64*4096+byt l 2 %64*64+byt l 3 %64=r.toNat:=by omega
  have g2:¬(byt l 0/32==6&&cnt l 1)=true:=by simp;omega
  have g3:¬(byt l 0/16==14&&cnt l 1&&cnt l 2)=true:=by simp;omega
  have g4:(byt l 0/8==30&&cnt l 1&&cnt l 2&&cnt l 3)=true:=by simp[c1,c2,c3];omega
  unfold dec;rw[if_neg (by omega),if_neg g2,if_neg g3,if_pos g4,hv,if_pos];·rfl
  ·simp only[Bool.and_eq_true,decide_eq_true_eq,valid_nat];omega
theorem enc_cons(r:Int)(R:List Int):enc (r::R)=Lib.encodeRune r++enc R:=by simp[enc]
theorem encodeRune_ne(r:Int)(t:List UInt8):Lib.encodeRune r++t≠[]:=by intro e;have:=(Lib.runeCells_le r).1;rw[Lib.runeCells_length]at this;have h:=congrArg List.length e;simp only[List.length_append,List.length_nil]at h;omega
theorem runes_enc(R:List Int)(h:∀r∈R,Good r):runes (enc R)=R:=by
 induction R with
 |nil=>simp[enc,runes_nil]
 |cons r R ih=>
  have hr:=h r (by simp);have hd:=dec_enc r hr.1 (enc R);have h0:0≤r:=by rcases hr.1 with a|a<;>omega
  rw[enc_cons,runes_step (encodeRune_ne r _),hd,List.drop_left,ih (fun x hx=>h x (by simp[hx]))];have e:shownI ((r.toNat:Nat):Int)=r:=by rw[Int.toNat_of_nonneg h0];exact hr.2
  rw[e]
theorem dec_sc(l:List UInt8):Sc ((dec l).1:Int):=by
 have hb:=byt_lt l 0;have hb1:=byt_lt l 1;have hb2:=byt_lt l 2;have hb3:=byt_lt l 3;unfold Sc dec;by_cases a:byt l 0<0x80;·rw[if_pos a];simp only;omega
 rw[if_neg a];by_cases g2:(byt l 0/32==6&&cnt l 1)=true
 ·rw[if_pos g2];by_cases k:byt l 0 %32*64+byt l 1 %64≥0x80;·rw[if_pos k];simp only;omega
  ·rw[if_neg k];simp only;omega
 rw[if_neg g2];by_cases g3:(byt l 0/16==14&&cnt l 1&&cnt l 2)=true
 ·rw[if_pos g3];split;·rename_i k;simp only[Bool.and_eq_true,decide_eq_true_eq,valid_nat]at k;simp only;omega
  ·simp only;omega
 rw[if_neg g3];by_cases g4:(byt l 0/8==30&&cnt l 1&&cnt l 2&&cnt l 3)=true
 ·rw[if_pos g4];split;·rename_i k;simp only[Bool.and_eq_true,decide_eq_true_eq,valid_nat]at k;simp only;omega
  ·simp only;omega
 rw[if_neg g4];simp only;omega
theorem shown_good(r:Int)(h:Sc r):Good (shownI r):=by
 unfold Good Sc at*;by_cases a:(r<32∧r≠10)∨(127≤r∧r≤159)
 ·have e:shownI r=65533:=by unfold shownI;rw[if_pos a]
  rw[e];exact⟨by omega,rfl⟩
 ·have e:shownI r=r:=by unfold shownI;rw[if_neg a]
  rw[e];exact⟨h,e⟩
theorem runes_good(l:List UInt8):∀r∈runes l,Good r:=by
 generalize hn:l.length=n;induction n using Nat.strongRecOn generalizing l with
 |_ n ih=>
  by_cases h:l=[];·subst h;rw[runes_nil];simp
  ·rw[runes_step h];have hp:=dec_pos l;have hl:=List.length_pos_iff.2 h;intro r hr;rcases List.mem_cons.1 hr with rfl|hr;·exact shown_good _ (dec_sc l)
   ·exact ih (l.drop (dec l).2).length (by rw[List.length_drop];omega) _ rfl r hr
end
section
def isMk(r:Int):Bool:=decide (r≠10∧wid r=0)
theorem isMk_iff(r:Int):isMk r=true↔r≠10∧wid r=0:=by simp[isMk]
theorem isMk_false(r:Int):isMk r=false↔¬(r≠10∧wid r=0):=by rw[<-isMk_iff];cases isMk r<;>simp
theorem takeWhile_stop{α:Type}(p:α->Bool)(l:List α)(k:Nat)(hk:k≤l.length)(h:∀j (hj:j<l.length),j<k->p l[j]=true)(he:∀hj:k<l.length,p l[k]=false):l.takeWhile p=l.take k:=by
 induction l generalizing k with
 |nil=>simp
 |cons a l ih=>
  cases k with
  |zero=>have:=he (by simp);simp at this;simp[this]
  |succ k=>have h0:=h 0 (by simp) (by omega);simp at h0;simp only[List.takeWhile_cons,h0,if_true,List.take_succ_cons];rw[ih k (by simpa using hk) (fun j hj hjk=>by have:=h (j+1) (by simpa using hj) (by omega);simpa using this) (fun hj=>by have:=he (by simpa using hj);simpa using this)]
def mks(R:List Int):List Int:=R.takeWhile isMk
theorem mks_le(R:List Int):(mks R).length≤R.length:=(List.takeWhile_sublist _).length_le
def cBase(R:List Int):Int:=match R with|[]=>32|r::_=>if isMk r=true then 32 else r
def cOwn(R:List Int):Nat:=match R with|[]=>0|r::_=>if isMk r=true then 0 else 1
def cMarks(R:List Int):List Int:=mks (R.drop (cOwn R))
def cNum(R:List Int):Nat:=match R with|[]=>0|r::_=>if r=10 then 1 else cOwn R+(cMarks R).length
def cText(R:List Int):List UInt8:=match R with|[]=>[]|r::_=>if r=10 then[10]else enc (cBase R::(cMarks R).take 4)
def cWide(R:List Int):Int:=match R with|[]=>0|r::_=>if r=10 then 0 else wid (cBase R)
theorem cNum_pos{R:List Int}(h:R≠[]):1≤cNum R:=by
 match R,h with
 |r::t,_=>
  simp only[cNum];split;·omega
  ·by_cases hm:isMk r=true
   ·have e:cOwn (r::t)=0:=by simp[cOwn,hm]
    have:cMarks (r::t)=r::mks t:=by simp[cMarks,e,mks,hm]
    rw[this];simp;omega
   ·have e:cOwn (r::t)=1:=by simp[cOwn,hm]
    omega
theorem cNum_le(R:List Int):cNum R≤R.length:=by
 match R with
 |[]=>simp[cNum]
 |r::t=>
  simp only[cNum];split;·simp
  ·have h1:=mks_le ((r::t).drop (cOwn (r::t)));rw[List.length_drop]at h1;have h2:cOwn (r::t)≤1:=by simp only[cOwn];split<;>omega
   simp only[cMarks,List.length_cons]at*;omega
def clusF:Nat->List Int->List (List UInt8×Int)
 |0,_=>[]
 |_+1,[]=>[]
 |f+1,r::t=>(cText (r::t),cWide (r::t))::clusF f ((r::t).drop (cNum (r::t)))
theorem clusF_enough:∀(f g:Nat) (l:List Int),l.length≤f->l.length≤g->clusF f l=clusF g l
 |0,0,_,_,_=>rfl
 |0,g+1,l,h,_=>by have:l=[]:=List.length_eq_zero_iff.1 (by omega);subst this;rfl
 |f+1,0,l,_,h=>by have:l=[]:=List.length_eq_zero_iff.1 (by omega);subst this;rfl
 |f+1,g+1,[],_,_=>rfl
 |f+1,g+1,r::t,hf,hg=>by have hp:=cNum_pos (R:=r::t) (by simp);simp only[List.length_cons]at hf hg;simp only[clusF];rw[clusF_enough f g _ (by rw[List.length_drop,List.length_cons];omega) (by rw[List.length_drop,List.length_cons];omega)]
def clus(R:List Int):List (List UInt8×Int):=clusF R.length R
theorem clus_nil:clus []=[]:=rfl
theorem clus_step{R:List Int}(h:R≠[]):clus R=(cText R,cWide R)::clus (R.drop (cNum R)):=by
 cases R with
 |nil=>exact absurd rfl h
 |cons r t=>have hp:=cNum_pos (R:=r::t) (by simp);show clusF (t.length+1) (r::t)=_;simp only[clusF,clus];rw[clusF_enough t.length _ _ (by rw[List.length_drop,List.length_cons];omega) (Nat.le_refl _)]
theorem clus_length(R:List Int):(clus R).length≤R.length:=by
 generalize hn:R.length=n;induction n using Nat.strongRecOn generalizing R with
 |_ n ih=>
  by_cases h:R=[];·subst h;rw[clus_nil];simp
  ·rw[clus_step h];have hp:=cNum_pos h;have hl:=List.length_pos_iff.2 h;have:=ih (R.drop (cNum R)).length (by rw[List.length_drop];omega) _ rfl;rw[List.length_drop]at this;simp only[List.length_cons];omega
theorem wid_blank:wid 32=1:=by decide+kernel
theorem cWide_bd(R:List Int):0≤cWide R∧cWide R≤2:=by
 match R with
 |[]=>simp[cWide]
 |r::t=>
  simp only[cWide];split;·omega
  ·exact wid_bd _
theorem clus_wide(R:List Int):∀c∈clus R,0≤c.2∧c.2≤2:=by
 generalize hn:R.length=n;induction n using Nat.strongRecOn generalizing R with
 |_ n ih=>
  by_cases h:R=[];·subst h;rw[clus_nil];simp
  ·rw[clus_step h];have hp:=cNum_pos h;have hl:=List.length_pos_iff.2 h;intro c hc;rcases List.mem_cons.1 hc with rfl|hc;·exact cWide_bd R
   ·exact ih (R.drop (cNum R)).length (by rw[List.length_drop];omega) _ rfl c hc
def wideSum(l:List (List UInt8×Int)):Int:=(l.map (·.2)).sum
theorem wideSum_snoc(l:List (List UInt8×Int))(k:Nat)(h:k<l.length):wideSum (l.take (k+1))=wideSum (l.take k)+(l[k]'h).2:=by unfold wideSum;rw[List.take_succ_eq_append_getElem h,List.map_append,List.sum_append];simp only[List.map_cons,List.map_nil,List.sum_cons,List.sum_nil];omega
theorem wideSum_bd(l:List (List UInt8×Int))(h:∀c∈l,0≤c.2∧c.2≤2)(k:Nat):0≤wideSum (l.take k)∧wideSum (l.take k)≤2*k:=by
 induction k with
 |zero=>simp[wideSum]
 |succ k ih=>
  by_cases hk:k<l.length;·rw[wideSum_snoc l k hk];have:=h l[k] (List.getElem_mem hk);omega
  ·rw[List.take_of_length_le (by omega)]at*;omega
end
section
theorem isMk_ten:isMk 10=false:=by rw[isMk_false];simp
theorem isMk_blank:isMk 32=false:=by rw[isMk_false,wid_blank];simp
def cRunes(R:List Int):List Int:=match R with|[]=>[]|r::_=>if r=10 then[10]else cBase R::(cMarks R).take 4
theorem enc_ten:enc [10]=[10]:=by decide+kernel
theorem cText_enc(R:List Int):cText R=enc (cRunes R):=by
 match R with
 |[]=>rfl
 |r::t=>
  simp only[cText,cRunes];split;·rw[enc_ten]
  ·rfl
def normF:Nat->List Int->List Int
 |0,_=>[]
 |_+1,[]=>[]
 |f+1,r::t=>cRunes (r::t)++normF f ((r::t).drop (cNum (r::t)))
theorem normF_enough:∀(f g:Nat) (l:List Int),l.length≤f->l.length≤g->normF f l=normF g l
 |0,0,_,_,_=>rfl
 |0,g+1,l,h,_=>by have:l=[]:=List.length_eq_zero_iff.1 (by omega);subst this;rfl
 |f+1,0,l,_,h=>by have:l=[]:=List.length_eq_zero_iff.1 (by omega);subst this;rfl
 |f+1,g+1,[],_,_=>rfl
 |f+1,g+1,r::t,hf,hg=>by have hp:=cNum_pos (R:=r::t) (by simp);simp only[List.length_cons]at hf hg;simp only[normF];rw[normF_enough f g _ (by rw[List.length_drop,List.length_cons];omega) (by rw[List.length_drop,List.length_cons];omega)]
def norm(R:List Int):List Int:=normF R.length R
theorem norm_nil:norm []=[]:=rfl
theorem norm_step{R:List Int}(h:R≠[]):norm R=cRunes R++norm (R.drop (cNum R)):=by
 cases R with
 |nil=>exact absurd rfl h
 |cons r t=>have hp:=cNum_pos (R:=r::t) (by simp);show normF (t.length+1) (r::t)=_;simp only[normF,norm];rw[normF_enough t.length _ _ (by rw[List.length_drop,List.length_cons];omega) (Nat.le_refl _)]
theorem enc_app(a b:List Int):enc (a++b)=enc a++enc b:=by simp[enc]
def joined(l:List (List UInt8×Int)):List UInt8:=l.flatMap (·.1)
theorem joined_enc(R:List Int):joined (clus R)=enc (norm R):=by
 generalize hn:R.length=n;induction n using Nat.strongRecOn generalizing R with
 |_ n ih=>
  by_cases h:R=[];·subst h;rw[clus_nil,norm_nil];rfl
  ·have hp:=cNum_pos h;have hl:=List.length_pos_iff.2 h;have e:=ih (R.drop (cNum R)).length (by rw[List.length_drop];omega) _ rfl;rw[clus_step h,norm_step h,enc_app,<-e,<-cText_enc];rfl
def NoMk(X:List Int):Prop:=∀x,X.head?=some x->isMk x=false
theorem mks_app(M X:List Int)(hM:∀m∈M,isMk m=true)(hX:NoMk X):mks (M++X)=M:=by
 unfold mks;rw[List.takeWhile_append_of_pos (fun a ha=>hM a ha)];cases X with
 |nil=>simp
 |cons x X=>have:=hX x rfl;simp[this]
theorem mks_mem(L:List Int):∀m∈mks L,isMk m=true:=by
 unfold mks;induction L with
 |nil=>simp
 |cons a L ih=>
  intro m hm;by_cases ha:isMk a=true
  ·rw[List.takeWhile_cons,if_pos ha]at hm;rcases List.mem_cons.1 hm with rfl|hm;·exact ha
   ·exact ih m hm
  ·rw[List.takeWhile_cons,if_neg ha]at hm;cases hm
theorem cBase_no(r:Int)(t:List Int):isMk (cBase (r::t))=false:=by
 simp only[cBase];split;·exact isMk_blank
 ·rename_i h;simpa using h
theorem cRunes_no{R:List Int}(h:R≠[])(X:List Int):NoMk (cRunes R++X):=by
 match R,h with
 |r::t,_=>
  intro x hx;simp only[cRunes]at hx;split at hx;·simp at hx;subst hx;exact isMk_ten
  ·simp at hx;subst hx;exact cBase_no r t
theorem cBase_ten{r:Int}{t:List Int}(h:r≠10):cBase (r::t)≠10:=by
 simp only[cBase];split;·omega
 ·exact h
theorem clus_app{R:List Int}(h:R≠[])(X:List Int)(hX:NoMk X):clus (cRunes R++X)=(cText R,cWide R)::clus X:=by
 match R,h with
 |r::t,_=>
  by_cases h10:r=10
  ·have e1:cRunes (r::t)=[10]:=by simp only[cRunes,if_pos h10]
   have e2:cText (r::t)=[10]:=by simp only[cText,if_pos h10]
   have e3:cWide (r::t)=0:=by simp only[cWide,if_pos h10]
   rw[e1,e2,e3];show clus (10::X)=_;rw[clus_step (by simp)];simp[cText,cWide,cNum]
  ·have e1:cRunes (r::t)=cBase (r::t)::(cMarks (r::t)).take 4:=by simp only[cRunes,if_neg h10]
   have e2:cText (r::t)=enc (cBase (r::t)::(cMarks (r::t)).take 4):=by simp only[cText,if_neg h10]
   have e3:cWide (r::t)=wid (cBase (r::t)):=by simp only[cWide,if_neg h10]
   have hb:=cBase_no r t;have hb10:=cBase_ten (t:=t) h10;have hM:∀m∈(cMarks (r::t)).take 4,isMk m=true:=fun m hm=>mks_mem _ m (List.mem_of_mem_take hm);have hM4:((cMarks (r::t)).take 4).length≤4:=by rw[List.length_take];omega
   rw[e1,e2,e3];generalize cBase (r::t)=B at*;generalize(cMarks (r::t)).take 4=M at*;have hb':¬isMk B=true:=by rw[hb];simp
   rw[List.cons_append,clus_step (by simp)];have o1:cOwn (B::(M++X))=1:=by simp only[cOwn,if_neg hb']
   have o2:cBase (B::(M++X))=B:=by simp only[cBase,if_neg hb']
   have o3:cMarks (B::(M++X))=M:=by unfold cMarks;rw[o1];exact mks_app M X hM hX
   have o4:cNum (B::(M++X))=1+M.length:=by simp only[cNum,if_neg hb10,o1,o3]
   have o5:cText (B::(M++X))=enc (B::M):=by simp only[cText,if_neg hb10,o2,o3];rw[List.take_of_length_le hM4]
   have o6:cWide (B::(M++X))=wid B:=by simp only[cWide,if_neg hb10,o2]
   rw[o4,o5,o6,Nat.add_comm,List.drop_succ_cons,List.drop_left]
theorem good_blank:Good 32:=⟨.inl (by omega),rfl⟩
theorem good_ten:Good 10:=⟨.inl (by omega),rfl⟩
theorem cRunes_good(R:List Int)(h:∀r∈R,Good r):∀r∈cRunes R,Good r:=by
 match R with
 |[]=>intro r hr;simp[cRunes]at hr
 |r::t=>
  intro x hx;simp only[cRunes]at hx;split at hx;·simp at hx;subst hx;exact good_ten
  ·rcases List.mem_cons.1 hx with rfl|hx
   ·simp only[cBase];split;·exact good_blank
    ·exact h r (by simp)
   ·have h1:=List.mem_of_mem_take hx;unfold cMarks mks at h1;have h2:=(List.takeWhile_sublist _).subset h1;exact h x (List.mem_of_mem_drop h2)
theorem cRunes_length(R:List Int):(cRunes R).length≤5:=by
 match R with
 |[]=>simp[cRunes]
 |r::t=>
  simp only[cRunes];split;·simp
  ·simp only[List.length_cons,List.length_take];omega
theorem norm_length(R:List Int):(norm R).length≤5*R.length:=by
 generalize hn:R.length=n;induction n using Nat.strongRecOn generalizing R with
 |_ n ih=>
  by_cases h:R=[];·subst h;rw[norm_nil];simp
  ·have hp:=cNum_pos h;have hle:=cNum_le R;have hl:=List.length_pos_iff.2 h;have e:=ih (R.drop (cNum R)).length (by rw[List.length_drop];omega) _ rfl;rw[List.length_drop]at e;have c:=cRunes_length R;rw[norm_step h,List.length_append];omega
theorem joined_length(s:List UInt8):(joined (clus (runes s))).length≤20*s.length:=by have a:=enc_le (norm (runes s));have b:=norm_length (runes s);have c:=runes_length s;rw[joined_enc];omega
theorem joined_snoc(l:List (List UInt8×Int))(k:Nat)(h:k<l.length):joined (l.take (k+1))=joined (l.take k)++(l[k]'h).1:=by unfold joined;rw[List.take_succ_eq_append_getElem h,List.flatMap_append];simp
theorem joined_take_le(l:List (List UInt8×Int))(k:Nat):(joined (l.take k)).length≤(joined l).length:=by
 unfold joined;have e:=(List.take_append_drop k l).symm;have:(l.flatMap (·.1)).length=((l.take k).flatMap (·.1)).length+((l.drop k).flatMap (·.1)).length:=by rw[<-List.length_append,<-List.flatMap_append,List.take_append_drop]
 omega
end
section
def tx(l:List (List UInt8×Int))(n:Nat):List UInt8:=(l[n]?.map (·.1)).getD []
theorem tx_at{l:List (List UInt8×Int)}{n:Nat}(h:n<l.length):tx l n=(l[n]).1:=by simp[tx,h]
theorem wideSum_app(a b:List (List UInt8×Int)):wideSum (a++b)=wideSum a+wideSum b:=by simp[wideSum,List.sum_append]
theorem wideSum_cons(c:List UInt8×Int)(b:List (List UInt8×Int)):wideSum (c::b)=c.2+wideSum b:=by simp[wideSum]
theorem joined_cons(c:List UInt8×Int)(b:List (List UInt8×Int)):joined (c::b)=c.1++joined b:=by simp[joined]
theorem joined_app(a b:List (List UInt8×Int)):joined (a++b)=joined a++joined b:=by simp[joined]
def fitN:List (List UInt8×Int)->Int->Nat
 |[],_=>0
 |c::t,w=>if c.1=[10]∨w<c.2 then 0 else fitN t (w-c.2)+1
theorem fitN_le:∀(l:List (List UInt8×Int)) (w:Int),fitN l w≤l.length
 |[],_=>Nat.le_refl _
 |c::t,w=>by
  simp only[fitN];split;·simp
  ·have:=fitN_le t (w-c.2);simp;omega
def Fit(l:List (List UInt8×Int))(w:Int)(k:Nat):Prop:=∀j,j<k->tx l j≠[10]∧wideSum (l.take (j+1))≤w
theorem fitN_stop:∀(l:List (List UInt8×Int)) (w:Int) (k:Nat),k≤l.length->Fit l w k->(k<l.length->tx l k=[10]∨w<wideSum (l.take (k+1)))->fitN l w=k
 |[],w,k,hk,_,_=>by simp only[List.length_nil]at hk;simp only[fitN];omega
 |c::t,w,0,_,_,he=>by have:=he (by simp);simp only[tx,List.take_succ_cons,List.take_zero,wideSum_cons,List.getElem?_cons_zero,Option.map_some,Option.getD_some,show wideSum []=0 from rfl,Int.add_zero]at this;simp only[fitN,if_pos this]
 |c::t,w,k+1,hk,hf,he=>by
  have h0:=hf 0 (by omega);simp only[tx,List.take_succ_cons,List.take_zero,wideSum_cons,List.getElem?_cons_zero,Option.map_some,Option.getD_some,show wideSum []=0 from rfl,Int.add_zero]at h0;have hn:¬(c.1=[10]∨w<c.2):=by rintro(h|h);exact h0.1 h;omega
  simp only[fitN,if_neg hn];rw[fitN_stop t (w-c.2) k (by simpa using hk) (fun j hj=>by have:=hf (j+1) (by omega);rw[List.take_succ_cons,wideSum_cons]at this;exact⟨by simpa[tx]using this.1,by omega⟩) (fun h=>by
   have:=he (by simpa using h);rw[List.take_succ_cons,wideSum_cons]at this;rcases this with h|h;·exact .inl (by simpa[tx]using h)
   ·exact .inr (by omega))]
theorem fitN_spec:∀(l:List (List UInt8×Int)) (w:Int),(∀c∈l,0≤c.2∧c.2≤2)->Fit l w (fitN l w)∧(fitN l w<l.length->tx l (fitN l w)=[10]∨w<wideSum (l.take (fitN l w+1)))
 |[],w,_=>⟨fun j hj=>by simp[fitN]at hj,fun h=>by simp at h⟩
 |c::t,w,hb=>by
  by_cases h:c.1=[10]∨w<c.2;·simp only[fitN,if_pos h];refine⟨fun j hj=>by omega,fun _=>?_⟩;simpa[tx,wideSum]using h
  ·have ih:=fitN_spec t (w-c.2) (fun x hx=>hb x (by simp[hx]));simp only[fitN,if_neg h];have h':=not_or.1 h;refine⟨fun j hj=>?_,fun hl=>?_⟩;·cases j with
    |zero=>simp[tx,wideSum];exact⟨h'.1,by omega⟩
    |succ j=>have:=ih.1 j (by omega);rw[List.take_succ_cons,wideSum_cons];exact⟨by simpa[tx]using this.1,by omega⟩
   ·have:=ih.2 (by simpa using hl);rw[List.take_succ_cons,wideSum_cons];rcases this with h|h;·exact .inl (by simpa[tx]using h)
    ·exact .inr (by omega)
def lastB(l:List (List UInt8×Int)):Nat->Int
 |0=>-1
 |n+1=>if tx l n=[32]then n else lastB l n
theorem lastB_lt(l:List (List UInt8×Int)):∀n,lastB l n<n∧-1≤lastB l n
 |0=>by simp[lastB]
 |n+1=>by have:=lastB_lt l n;simp only[lastB];split<;>omega
structure Cutt where
 n:Nat
 d:Nat
 e:Int
def firstL(r:List (List UInt8×Int))(w:Int):Cutt:=
 if fitN r w=r.length then⟨fitN r w,0,3⟩
 else if tx r (fitN r w)=[10]then⟨fitN r w,1,2⟩
 else if fitN r w=0 then⟨1,0,1⟩
 else if tx r (fitN r w)=[32]then⟨fitN r w,1,0⟩
 else if 0≤lastB r (fitN r w)then⟨(lastB r (fitN r w)).toNat,1,0⟩
 else⟨fitN r w,0,1⟩
theorem firstL_le(r:List (List UInt8×Int))(w:Int):(firstL r w).n+(firstL r w).d≤r.length:=by
 have h:=fitN_le r w;have hb:=lastB_lt r (fitN r w);unfold firstL;repeat' split
 all_goals(simp only;omega)
theorem firstL_pos(r:List (List UInt8×Int))(w:Int):(firstL r w).e=3∨1≤(firstL r w).n+(firstL r w).d:=by
 unfold firstL;repeat' split
 all_goals(first|exact .inl rfl|(refine .inr ?_;simp only;omega))
structure Ln where
 T:List UInt8
 W:Int
 F:Nat
 N:Nat
 E:Int
def lnAt(l:List (List UInt8×Int))(w:Int)(a:Nat):Ln:=
 let c:=firstL (l.drop a) w
 let r:=(l.drop a).take c.n
 if w<wideSum r then⟨List.replicate w.toNat 32,w,a,1,c.e⟩else⟨joined r,wideSum r,a,r.length,c.e⟩
def nxt(l:List (List UInt8×Int))(w:Int)(a:Nat):Nat:=a+(firstL (l.drop a) w).n+(firstL (l.drop a) w).d
theorem nxt_le(l:List (List UInt8×Int))(w:Int)(a:Nat)(h:a≤l.length):nxt l w a≤l.length:=by have:=firstL_le (l.drop a) w;rw[List.length_drop]at this;unfold nxt;omega
theorem lnAt_E(l:List (List UInt8×Int))(w:Int)(a:Nat):(lnAt l w a).E=(firstL (l.drop a) w).e:=by simp only[lnAt];split<;>rfl
theorem nxt_lt(l:List (List UInt8×Int))(w:Int)(a:Nat)(h:(lnAt l w a).E≠3):a<nxt l w a:=by rw[lnAt_E]at h;have:=(firstL_pos (l.drop a) w).resolve_left h;unfold nxt;omega
def linesF:Nat->List (List UInt8×Int)->Int->Nat->List Ln
 |0,_,_,_=>[]
 |f+1,l,w,a=>if(lnAt l w a).E=3 then[lnAt l w a]else lnAt l w a::linesF f l w (nxt l w a)
theorem linesF_enough:∀(f g:Nat) (l:List (List UInt8×Int)) (w:Int) (a:Nat),a≤l.length->l.length<f+a->l.length<g+a->linesF f l w a=linesF g l w a
 |0,_,_,_,_,_,h,_=>by omega
 |_+1,0,_,_,_,_,_,h=>by omega
 |f+1,g+1,l,w,a,ha,hf,hg=>by
  simp only[linesF];split;·rfl
  ·rename_i he;have:=nxt_lt l w a he;rw[linesF_enough f g l w (nxt l w a) (nxt_le l w a ha) (by omega) (by omega)]
def linesA(l:List (List UInt8×Int))(w:Int)(a:Nat):List Ln:=linesF (l.length+1-a) l w a
theorem linesA_end{l:List (List UInt8×Int)}{w:Int}{a:Nat}(ha:a≤l.length)(h:(lnAt l w a).E=3):linesA l w a=[lnAt l w a]:=by unfold linesA;rw[show l.length+1-a=(l.length-a)+1 by omega];simp only[linesF,if_pos h]
theorem linesA_step{l:List (List UInt8×Int)}{w:Int}{a:Nat}(ha:a≤l.length)(h:(lnAt l w a).E≠3):linesA l w a=lnAt l w a::linesA l w (nxt l w a):=by have h1:=nxt_lt l w a h;have h2:=nxt_le l w a ha;unfold linesA;rw[show l.length+1-a=(l.length-a)+1 by omega];simp only[linesF,if_neg h];rw[linesF_enough (l.length-a) (l.length+1-nxt l w a) l w (nxt l w a) h2 (by omega) (by omega)]
theorem linesA_length(l:List (List UInt8×Int))(w:Int)(a:Nat)(ha:a≤l.length):1≤(linesA l w a).length∧(linesA l w a).length≤l.length+1-a:=by
 generalize hn:l.length-a=n;induction n using Nat.strongRecOn generalizing a with
 |_ n ih=>
  by_cases h:(lnAt l w a).E=3;·rw[linesA_end ha h];simp;omega
  ·have h1:=nxt_lt l w a h;have h2:=nxt_le l w a ha;rw[linesA_step ha h];have:=ih (l.length-nxt l w a) (by omega) (nxt l w a) h2 rfl;simp only[List.length_cons];omega
def linesOf(l:List (List UInt8×Int))(w:Int):List Ln:=if w<1 then[]else linesA l w 0
end
section
open Go.RowKit Go.Proofs.Tryz
def TabAt(w:World):Prop:=∀i,i<26->w.cell? ⟨6,i*3,none⟩=some (Iq (spanAt i).1)∧w.cell? ⟨6,i*3+1,none⟩=some (Iq (spanAt i).2.1)∧w.cell? ⟨6,i*3+2,none⟩=some (Iq (spanAt i).2.2)
theorem gWidth_any(r:Int)(w:World)(ht:TabAt w):
 Calls prog 41 #[Iq r] w fun e w'=>e=.returned (Iq (wid r))∧w'=w:=by
 have HT:=qH<|ht;clear ht;by_cases h10:r=10;·subst h10;rw[wid_ten];go_enter func41,ntmps41;go_wp2;go_ret;exact⟨rfl,rfl⟩
 ·have h10':(r==10)=false:=by simp[h10]
  have H10:Hid (r≠10):=h10;clear h10;go_enter func41,ntmps41;go_wp2;go_loop[3,4] (fun a b=>∃lo hi:Nat,lo≤hi∧hi≤26∧a=Iq lo∧b=Iq hi∧Hid (Half r lo hi)) (fun a b=>(intOf b-intOf a).toNat);case atStart=>exact⟨0,26,by omega,by omega,rfl,rfl,half_start r⟩
  case round=>
   obtain⟨lo,hi,hle,h26,rfl,rfl,hh⟩:=hrel;by_cases hlt:lo<hi
   ·have hlt':(lo:Int)<(hi:Int):=by omega
    obtain⟨mid,hm⟩:∃mid:Nat,mid=(lo+hi)/2:=⟨_,rfl⟩;have hmid:((lo:Int)+(hi:Int))/2=(mid:Int):=by omega
    have hm26:mid<26:=by omega
    have hmlo:lo≤mid:=by omega
    have hmhi:mid<hi:=by omega
    clear hm;obtain⟨c0,c1,c2⟩:=HT mid hm26;obtain⟨a,b,c,hs⟩:∃a b c,spanAt mid=(a,b,c):=⟨_,_,_,rfl⟩;rw[hs]at c0 c1 c2;have HS:=qH<|hs;clear hs;have fin1:r<a->Hid (Half r lo mid):=fun h=>half_high hh hm26 (by rw[HS.out];exact h);have fin2:b<r->Hid (Half r (mid+1) hi):=fun h=>half_low hh hm26 (by rw[HS.out];exact h);have fin3:Hid (a≤r->r≤b->wid r=c):=fun h k=>by have:=wid_span r _ (spanAt_mem hm26) (by rw[HS.out];exact h) (by rw[HS.out];exact k);rw[HS.out]at this;exact this
    by_cases ha:r<a
    ·have h1:=fin1 ha;clear fin1 fin2 fin3 hh;go_wp2;go_round;case rel=>exact⟨lo,mid,by omega,by omega,rfl,by first|rfl|rw[hmid],h1⟩
     case measure=>simp[intOf];omega
    ·by_cases hb:b<r
     ·have h2:=fin2 hb;clear fin1 fin2 fin3 hh;go_wp2;go_round;case rel=>exact⟨mid+1,hi,by omega,by omega,by first|rfl|go_num|(rw[hmid];go_num),rfl,h2⟩
      case measure=>simp[intOf];omega
     ·have h3:=qH<|fin3 (by omega) (by omega);clear fin1 fin2 fin3 hh;go_wp2;go_ret;rw[h3.out];exact⟨rfl,rfl⟩
   ·have hlt':¬(lo:Int)<(hi:Int):=by omega
    have h3:=qH<|half_end hh (by omega) H10;clear hh;go_wp2;go_ret;rw[h3.out];exact⟨rfl,rfl⟩
end
section
open Go.RowKit Go.Proofs.Tryz
theorem gEncode_none'(a:Option Addr)(cap:Nat)(w:World):
 Calls prog 40 #[.slice a 0 cap] w fun e w'=>e=.returned (.string ⟨#[]⟩)∧Below w.heap.size w w':=by
 have hcv:=conv_own (l:=[]) (show w.ownsRow w.heap.size 5 1 (.slice none 0 0) 0 (Lib.byteCells [])from World.ownsRow_nil w w.heap.size 5 1);go_enter func40,ntmps40;go_wp2;go_loop[3,8] (fun v i=>v=.slice none 0 0∧i=Iq 0) (fun _ _=>0);case atStart=>exact⟨rfl,rfl⟩
 case round=>obtain⟨rfl,rfl⟩:=hrel;go_wp2;go_ret;exact⟨rfl,Below.refl _ _⟩
theorem gEncode_all(zs:List Int)(v:Value)(w:World)(h:Ints w v zs)(hlen:zs.length≤17592186044416):
 Calls prog 40 #[v] w fun e w'=>e=.returned (.string ⟨(enc zs).toArray⟩)∧Below w.heap.size w w':=by
 obtain⟨a,cap,rfl,rfl|⟨b,off,rfl,hb,hc⟩⟩:=h;·exact gEncode_none' a cap w
 ·exact gEncode_some zs b off cap w hb hc hlen
theorem ints_own'{w:World}{B n:Nat}{v:Value}{zs:List Int}(h:w.ownsRow B 3 1 v n (zs.map (Value.int .i64))):Ints w v zs:=by
 have hl:zs.length=n:=by have:=h.1;simpa using this
 rcases h.2 with⟨rfl,rfl⟩|⟨g,cap,cur,rfl,_,hg,_⟩;·have hz:=List.length_eq_zero_iff.1 hl;subst hz;exact⟨none,0,rfl,.inl rfl⟩
 ·refine⟨some ⟨g,0,none⟩,cap,by rw[hl],.inr ⟨g,0,rfl,(Array.getElem?_eq_some_iff.1 hg).1,fun j hj=>?_⟩⟩;have:=h.cells (g:=g) rfl j (Iq (zs[j]?.getD 0)) (by simp[hj]);have e:(⟨g,0,none⟩:Addr).add j=⟨g,0+j,none⟩:=by unfold Addr.add;split<;>simp_all
  rwa[e]at this
end
section
theorem str_app(a b:List UInt8):(⟨a.toArray⟩:ByteArray)++(⟨b.toArray⟩:ByteArray)=⟨(a++b).toArray⟩:=by apply ByteArray.ext;simp
def Nrm(c:List UInt8×Int):Prop:=∃X,(∀r∈X,Good r)∧X≠[]∧NoMk X∧enc X=c.1∧∀Y,NoMk Y->clus (X++Y)=c::clus Y
theorem clus_nrm(R:List Int)(hg:∀r∈R,Good r):∀c∈clus R,Nrm c:=by
 generalize hn:R.length=n;induction n using Nat.strongRecOn generalizing R with
 |_ n ih=>
  by_cases h:R=[];·subst h;rw[clus_nil];simp
  ·have hp:=cNum_pos h;have hl:=List.length_pos_iff.2 h;rw[clus_step h];intro c hc;rcases List.mem_cons.1 hc with rfl|hc
   ·have hne:cRunes R≠[]:=by
     match R,h with
     |r::t,_=>simp only[cRunes];split<;>simp
    exact⟨cRunes R,cRunes_good R hg,hne,by simpa using cRunes_no h [],(cText_enc R).symm,fun Y hY=>clus_app h Y hY⟩
   ·exact ih (R.drop (cNum R)).length (by rw[List.length_drop];omega) _ (fun x hx=>hg x (List.mem_of_mem_drop hx)) rfl c hc
def one(l:List (List UInt8×Int)):List (List UInt8×Int):=l.map fun c=>if c.1=[10]then([32],1)else c
theorem one_length(l:List (List UInt8×Int)):(one l).length=l.length:=by simp[one]
theorem one_ten(l:List (List UInt8×Int)):∀c∈one l,c.1≠[10]:=by
 intro c hc;obtain⟨d,hd,rfl⟩:=List.mem_map.1 hc;split;·decide
 ·assumption
theorem clus_short(R:List Int):∀c∈clus R,c.1.length≤20:=by
 generalize hn:R.length=n;induction n using Nat.strongRecOn generalizing R with
 |_ n ih=>
  by_cases h:R=[];·subst h;rw[clus_nil];simp
  ·have hp:=cNum_pos h;have hl:=List.length_pos_iff.2 h;rw[clus_step h];intro c hc;rcases List.mem_cons.1 hc with rfl|hc;·show(cText R).length≤20;rw[cText_enc];have a:=enc_le (cRunes R);have b:=cRunes_length R;omega
   ·exact ih (R.drop (cNum R)).length (by rw[List.length_drop];omega) _ rfl c hc
theorem joined_bd:∀(l:List (List UInt8×Int)),(∀c∈l,c.1.length≤20)->(joined l).length≤20*l.length
 |[],_=>by simp[joined]
 |c::l,h=>by have a:=joined_bd l (fun x hx=>h x (by simp[hx]));have b:=h c (by simp);rw[joined_cons,List.length_append,List.length_cons];omega
theorem one_short{l:List (List UInt8×Int)}(h:∀c∈l,c.1.length≤20):∀c∈one l,c.1.length≤20:=by
 intro c hc;obtain⟨d,hd,rfl⟩:=List.mem_map.1 hc;split;·simp
 ·exact h d hd
theorem one_wide{l:List (List UInt8×Int)}(h:∀c∈l,0≤c.2∧c.2≤2):∀c∈one l,0≤c.2∧c.2≤2:=by
 intro c hc;obtain⟨d,hd,rfl⟩:=List.mem_map.1 hc;split;·simp
 ·exact h d hd
theorem wideSum_take_le(l:List (List UInt8×Int))(h:∀c∈l,0≤c.2∧c.2≤2)(k:Nat):wideSum (l.take k)≤wideSum l:=by
 have e:wideSum l=wideSum (l.take k)+wideSum (l.drop k):=by rw[<-wideSum_app,List.take_append_drop]
 have:=wideSum_bd (l.drop k) (fun c hc=>h c (List.mem_of_mem_drop hc)) (l.drop k).length;rw[List.take_length]at this;omega
theorem fit_all(l:List (List UInt8×Int))(W:Int)(h:∀c∈l,0≤c.2∧c.2≤2)(h10:∀c∈l,c.1≠[10])(hW:0≤W):fitN l W=l.length↔wideSum l≤W:=by
 have sp:=fitN_spec l W h;have hle:=fitN_le l W;constructor;·intro e;cases hl:l.length with
  |zero=>have:l=[]:=List.length_eq_zero_iff.1 hl;subst this;exact hW
  |succ n=>have:=(sp.1 n (by omega)).2;rw[<-hl,List.take_length]at this;exact this
 ·intro e;by_cases hlt:fitN l W<l.length
  ·rcases sp.2 hlt with h2|h2;·rw[tx_at hlt]at h2;exact absurd h2 (h10 _ (List.getElem_mem hlt))
   ·have:=wideSum_take_le l h (fitN l W+1);omega
  ·omega
end
end Go.Proofs.YtmbefonnkkhfgaaGreatDoor
