import Derived.Test.YtehgehanbnkdiaaGreatDoorQ14
import Derived.Test.YtehgehanbnkdiaaGreatDoorRows
import Derived.WalkSpells
import Derived.WalkLawsBesides
set_option linter.all false
set_option maxRecDepth 100000
set_option maxHeartbeats 16000000
namespace Go.Proofs.YtehgehanbnkdiaaGreatDoor
open Go.RowKit Go.Proofs.Tryz
def EG(r:Int)(w:AT):
 Cw 318 #[.int .i32 r] w λe w'=>e=Rw (.int .i32 (eG r))/\w'=w:=by
 unfold eG;by_cases b:r<32
 .by_cases a:r=10;.subst a;go_enter func318,ntmps318;go_wp2;go_ret;simp_all
  .have c:(r !=10)=true:=by simp[a]
   rw[if_pos (Or.inl ⟨b,a⟩)];clear a;go_enter func318,ntmps318;go_wp2;go_ret;simp_all
 .by_cases d:127<=r
  .by_cases f:r<=159;.rw[if_pos (Or.inr ⟨d,f⟩)];go_enter func318,ntmps318;go_wp2;go_ret;simp_all
   .rw[if_neg dg];go_enter func318,ntmps318;go_wp2;go_ret;simp_all
  .rw[if_neg dg];go_enter func318,ntmps318;go_wp2;go_ret;simp_all
def ma(n:Int):Int:=if n<0\/1114111<n\/(55296<=n/\n<=57343)then 65533 else n
def Ja n:0<=ma n/\ma n<=1114111:=by grind[ma]
def tB n:Lib.encodeRuneZ (ma n)=Lib.encodeRuneZ n:=by
 unfold ma;split;.rename_i h;rw[Lib.encodeRuneZ_bad (r:=n) dg];rfl
 .rfl
def Ag(n:Int)(w:AT):
 Cw 342 #[Iq n] w λe w'=>e=Rw (.int .i32 (ma n))/\w'=w:=by
 unfold ma;by_cases a:n<0;.rw[if_pos (Or.inl a)];go_enter func342,ntmps342;go_wp2;go_ret;simp_all
 .by_cases b:1114111<n;.rw[if_pos (Or.inr (Or.inl b))];go_enter func342,ntmps342;go_wp2;go_ret;simp_all
  .by_cases c:55296<=n
   .by_cases d:n<=57343;.rw[if_pos (Or.inr (Or.inr ⟨c,d⟩))];go_enter func342,ntmps342;go_wp2;go_ret;simp_all
    .rw[if_neg dg];go_enter func342,ntmps342;go_wp2;go_ret;simp_all
   .rw[if_neg dg];go_enter func342,ntmps342;go_wp2;go_ret;simp_all
def EC{r}(a:0<=r)(b:r<=2147483647):0<=eG r/\eG r<=2147483647:=by grind[eG]
def Q9:(prog.info? 3).map (λi=>(i.zero,i.size,i.bytes))=some (some (Iq 0),1,8):=pt
def lQ{w:AT}{B i}{e}{size}{v}{n}{j}(h:w.ownsRow B e size v n j)(k:i<=B):w.ownsRow i e size v n j:=by
 refine⟨h.1,?_⟩;rcases h.2 with l|⟨g,d,f,a,b,c⟩;.grind
 .exact .inr ⟨g,d,f,a,aA k b,c⟩
def uU{s:BY}{a}(h:a<s.size):s.data.toList.drop a≠[]:=by simp_all
def uZ(s:BY)(w:AT)(Q:s.size<=17592186044416):
 Cw 285 #[.string s] w λe w'=>∃v,e=Rw v/\w'.ownsRow w.heap.size 3 1 v (az s.data.toList).length ((az s.data.toList).map (Value.int .i64))/\Bq w w':=by
 obtain⟨N,hi,D,E,F⟩:=info_parts Q9;go_enter func285,ntmps285;go_wp2;go_loopw[3] (λv wr=>∃(a:Nat) (b:zzc),wr.ownsRow (w.heap.size+1) 3 1 v b.length (b.map (Value.int .i64))/\wr.heap[w.heap.size]?=some (.stringIter s a)/\Bq w wr/\b++az (s.data.toList.drop a)=az s.data.toList/\b.length<=a) (λ_ wr=>s.size-wr.iterPos w.heap.size);.refine⟨0,[],gw _ _ _ _,?_,(ac _ w).alloc LE _,rfl,LE⟩;have:=World.iter_heap w s 0;omega
 obtain⟨a,b,g,f,o,d,J⟩:=hrel;have M:=(aj.1 f).1;by_cases C:a<s.size
 .obtain⟨r,n,hd⟩:∃r n,Utf8.decode s a=(r,n):=⟨_,_,rfl⟩;have t:∀p,(Instr.next (Pq w.heap.size) true p).run prog wr=.ok (.tuple #[.bool true,Iq a,.int .i32 r]) (wr.iterAt w.heap.size s (a+n)):=λp=>by have:=Lib.run_next_any_at (P:=prog) wr w.heap.size s a p f C;grind
  have h:qU (s.data.toList.drop a)=(r,n):=by rw[<-yi,hd]
  have K:1<=n:=by have:=lG (s.data.toList.drop a);rw[h]at this;exact this
  have L:r<=2147483647:=by have:=yh (s.data.toList.drop a);rw[h]at this;exact this
  have hy:=EC (r:=(r:Int)) dg dg;have I:Hid ((b++[eG r])++az (s.data.toList.drop (a+n))=az s.data.toList):=qH<|by rw[<-d,iG (uU C),h,List.drop_drop];simp
  have j:=Lib.iterAt_heap wr w.heap.size s a (a+n) f;have i:=Lib.below_iterAt o (k:=w.heap.size) LE s (a+n);have c:=ownsRow_iterAt g (k:=w.heap.size) dg s (a+n);have m:(wr.iterAt w.heap.size s (a+n)).heap.size=wr.heap.size:=Lib.iterAt_size _ _ _ _;have y:=qH<|m;clear hd h d g o m;go_wp2_with(first
   |(go_at_call 318;refine Ut (EG _ _) ?_;rintro w' rfl)
   |(at_builtin;refine wpList_append_own _ rfl _ _ 26 rfl (w.heap.size+1) 3 N (Iq 0) 1 8 underlying26 hi D E F rfl (by decide) _ _ _ rfl (c.alloc _) _ 1 1 [Iq (eG r)] rfl rfl ?c1 ?c2 ?c3 ?c4 ?c5 ?_));case c1=>exact cell_one_new _ _ _
  case c2=>intro u hu;simp at hu;subst hu;rfl
  case c3=>unfold maxLen;omega
  case c4=>omega
  case c5=>rw[ai,y.out];omega
  intro R O B A _;have x:=λq H=>(c.lt q H).1;have z:=(i.alloc rn _).grown A (by rw[ai,y.out];omega) (λq H=>rn);have l:O.heap[w.heap.size]?=some (.stringIter s (a+n)):=by rw[A.block w.heap.size (by rw[ai,y.out];omega) (λe=>rn)];rw[bG _ _ _ rn];exact j
  clear A x c i t j;go_wp2;go_roundw;.refine⟨a+n,b++[eG r],?_,l,z,I,rn⟩;grind
  .rw[iterPos_of l,iterPos_of f];omega
 .have t:∀p,(Instr.next (Pq w.heap.size) true p).run prog wr=_:=λp=>Lib.run_next_end_at wr w.heap.size s a p f C;have G:az (s.data.toList.drop a)=[]:=by rw[Cm (by simp_all),jV]
  rw[G,iP]at d;subst d;clear G;go_wp2;go_ret;exact⟨_,rfl,lQ g dg,o⟩
def jY(a:zzc)(c:∀x∈a,0<=x/\x<256)(w:AT):
 (convert 158 9 (Sq w.heap.size a.length a.length)).run prog (w.alloc (.cells (a.map (Value.int .u8)).toArray 5))=
  .ok (.string ⟨(a.map λx=>x.toNat.toUInt8).toArray⟩) (w.alloc (.cells (a.map (Value.int .u8)).toArray 5)):=by
 have h:=run_convert_bytes_back (P:=prog) (w.alloc (.cells (a.map (Value.int .u8)).toArray 5)) 158 9 5 (aq w.heap.size 0) a.length (a.map λx=>x.toNat.toUInt8) underlying158 underlying5 underlying9 (by
  intro j b;simp only[qE]at b;have e:((aq w.heap.size 0):Addr).add j=(aq w.heap.size j):=by unfold Addr.add;split<;>simp_all
  rw[e,World.cell?_alloc_mark];have d:=c a[j] (kK b);simp[b];omega);grind
def AF a(b:0<=a/\a<256)(w:AT):
 (convert 158 9 (Sq w.heap.size 1 1)).run prog (w.alloc (.cells #[.int .u8 a] 5))=.ok (.string ⟨#[a.toNat.toUInt8]⟩) (w.alloc (.cells #[.int .u8 a] 5)):=
 jY [a] rn w
def QF a b(c:0<=a/\a<256)(d:0<=b/\b<256)(w:AT):
 (convert 158 9 (Sq w.heap.size 2 2)).run prog (w.alloc (.cells #[.int .u8 a,.int .u8 b] 5))=.ok (.string ⟨#[a.toNat.toUInt8,b.toNat.toUInt8]⟩) (w.alloc (.cells #[.int .u8 a,.int .u8 b] 5)):=
 jY [a,b] rn w
def NG a b c(d:0<=a/\a<256)(e:0<=b/\b<256)(f:0<=c/\c<256)(w:AT):
 (convert 158 9 (Sq w.heap.size 3 3)).run prog (w.alloc (.cells #[.int .u8 a,.int .u8 b,.int .u8 c] 5))=.ok (.string ⟨#[a.toNat.toUInt8,b.toNat.toUInt8,c.toNat.toUInt8]⟩) (w.alloc (.cells #[.int .u8 a,.int .u8 b,.int .u8 c] 5)):=
 jY [a,b,c] (by simp;omega) w
def QG a b c d(e:0<=a/\a<256)(f:0<=b/\b<256)(g:0<=c/\c<256)(hd:0<=d/\d<256)(w:AT):
 (convert 158 9 (Sq w.heap.size 4 4)).run prog (w.alloc (.cells #[.int .u8 a,.int .u8 b,.int .u8 c,.int .u8 d] 5))=.ok (.string ⟨#[a.toNat.toUInt8,b.toNat.toUInt8,c.toNat.toUInt8,d.toNat.toUInt8]⟩) (w.alloc (.cells #[.int .u8 a,.int .u8 b,.int .u8 c,.int .u8 d] 5)):=
 jY [a,b,c,d] rn w
def xD(r:Int)(a:0<=r)(b:r<=127)(w:AT):
 Cw 137 #[Iq r] w λe w'=>e=Rw (.string ⟨(Lib.encodeRune r).toArray⟩)/\∃o,w'=w.alloc o:=by
 have c:Hid (Lib.encodeRune r=[r.toNat.toUInt8]):=qH<|by unfold Lib.encodeRune;rw[Lib.encodeRuneZ_one a b];rfl
 have d:=AF r dg w;go_enter func137,ntmps137;go_wp2;go_ret;rw[c.out];exact⟨rfl,_,rfl⟩
def xE(r:Int)(a:128<=r)(b:r<=2047)(w:AT):
 Cw 137 #[Iq r] w λe w'=>e=Rw (.string ⟨(Lib.encodeRune r).toArray⟩)/\∃o,w'=w.alloc o:=by
 have c:Hid (Lib.encodeRune r=[(192+r/64).toNat.toUInt8,(128+r %64).toNat.toUInt8]):=qH<|by unfold Lib.encodeRune;rw[Lib.encodeRuneZ_two a b];rfl
 have d:=QF (192+r/64) (128+r %64) dg dg w;go_enter func137,ntmps137;go_wp2;go_ret;rw[c.out];exact⟨rfl,_,rfl⟩
def ru(r:Int)(a:(2048<=r/\r<55296)\/(57343<r/\r<=65535))(w:AT):
 Cw 137 #[Iq r] w λe w'=>e=Rw (.string ⟨(Lib.encodeRune r).toArray⟩)/\∃o,w'=w.alloc o:=by
 have c:Hid (Lib.encodeRune r=[(224+r/4096).toNat.toUInt8,(128+r/64 %64).toNat.toUInt8,(128+r %64).toNat.toUInt8]):=qH<|by unfold Lib.encodeRune;rw[Lib.encodeRuneZ_three a];rfl
 have d:=NG (224+r/4096) (128+r/64 %64) (128+r %64) dg dg dg w;rcases a with⟨a,b⟩|⟨a,b⟩;all_goals go_enter func137,ntmps137;go_wp2;go_ret;rw[c.out];exact⟨rfl,_,rfl⟩
def uj(r:Int)(a:65536<=r)(b:r<=1114111)(w:AT):
 Cw 137 #[Iq r] w λe w'=>e=Rw (.string ⟨(Lib.encodeRune r).toArray⟩)/\∃o,w'=w.alloc o:=by
 have c:Hid (Lib.encodeRune r=[(240+r/262144).toNat.toUInt8,(128+r/4096 %64).toNat.toUInt8,(128+r/64 %64).toNat.toUInt8,(128+r %64).toNat.toUInt8]):=qH<|by unfold Lib.encodeRune;rw[Lib.encodeRuneZ_four a b];rfl
 have d:=QG (240+r/262144) (128+r/4096 %64) (128+r/64 %64) (128+r %64) dg dg dg dg w;go_enter func137,ntmps137;go_wp2;go_ret;rw[c.out];exact⟨rfl,_,rfl⟩
def xB(r:Int)(h:r<0\/(55296<=r/\r<=57343)\/1114111<r)(w:AT):
 Cw 137 #[Iq r] w λe w'=>e=Rw (.string ⟨(Lib.encodeRune r).toArray⟩)/\∃o,w'=w.alloc o:=by
 have a:Hid (Lib.encodeRune r=[239,191,189]):=qH<|by unfold Lib.encodeRune;rw[Lib.encodeRuneZ_bad h];rfl
 have c:=NG 239 191 189 dg dg dg w;rcases h with h|⟨h,b⟩|h;all_goals go_enter func137,ntmps137;go_wp2;go_ret;rw[a.out];exact⟨rfl,_,rfl⟩
def xC r w:
 Cw 137 #[Iq r] w λe w'=>e=Rw (.string ⟨(Lib.encodeRune r).toArray⟩)/\∃o,w'=w.alloc o:=by
 by_cases a:0<=r/\r<=127;.exact xD r a.1 a.2 w
 by_cases b:128<=r/\r<=2047;.exact xE r b.1 b.2 w
 by_cases c:(2048<=r/\r<55296)\/(57343<r/\r<=65535);.exact ru r c w
 by_cases d:65536<=r/\r<=1114111;.exact uj r d.1 d.2 w
 .exact xB r dg w
def nM r w:
 Cw 137 #[Iq r] w λe w'=>e=Rw (.string ⟨(Lib.encodeRune r).toArray⟩)/\Bq w w':=
 (xC r w).mono λe w' q=>⟨q.1,by obtain⟨o,rfl⟩:=q.2;exact No⟩
