import Derived.Test.YtadhgppeafpdgaaGreatDoorQ13
import Derived.Test.YtadhgppeafpdgaaGreatDoorQ08
set_option linter.all false
set_option maxRecDepth 100000
set_option maxHeartbeats 16000000
namespace Go.Proofs.YtadhgppeafpdgaaGreatDoor
open Go.RowKit Go.Sort
def ug(c:Nat):Nat:=if c<0x80 then 0xF0 else if c<0xC2\/0xF4<c then 0xF1 else if c=0xE0 then 0x13 else if c=0xED then 0x23 else if c=0xF0 then 0x34 else if c=0xF4 then 0x44 else if c<0xE0 then 2 else if c<0xF0 then 3 else 4
def MT(i:Nat):Nat:=if i=1 then 0xA0 else if i=3 then 0x90 else 0x80
def MS(i:Nat):Nat:=if i=2 then 0x9F else if i=4 then 0x8F else 0xBF
structure Aj(w:World):Prop where
 sz:6<w.heap.size/\7<w.heap.size
 fi:∀c,c<256->w.cell? (aq 6 c)=some (.int .u8 (ug c))
 lo:∀i,i<5->w.cell? (aq 7 (i*2))=some (.int .u8 (MT i))
 hi:∀i,i<5->w.cell? (aq 7 (i*2+1))=some (.int .u8 (MS i))
theorem Aj.below{w w':World}(h:Aj w)(hb:Bt w w'):Aj w':=
 ⟨⟨zz007 h.sz.1 hb.size,zz007 h.sz.2 hb.size⟩,fun c hc=>(hb.cell (p:=(aq 6 c)) h.sz.1).trans (h.fi c hc),fun i hi=>(hb.cell (p:=(aq 7 (i*2))) h.sz.2).trans (h.lo i hi),fun i hi=>(hb.cell (p:=(aq 7 (i*2+1))) h.sz.2).trans (h.hi i hi)⟩
def full(l:List UInt8):Prop:=l≠[]/\(aQ l 0<0xC2\/0xF4<aQ l 0\/gW (aQ l 0)<=l.length\/(1<l.length/\(aQ l 1<gx (aQ l 0)\/gw (aQ l 0)<aQ l 1))\/(2<l.length/\(aQ l 2<0x80\/0xBF<aQ l 2)))
theorem Kf(c:Nat):(c<0x80/\ug c=0xF0)\/((0x80<=c/\c<0xC2\/0xF4<c)/\ug c=0xF1)\/(0xC2<=c/\c<=0xF4/\∃n a:Nat,ug c=a*16+n/\n=gW c/\(n=2\/n=3\/n=4)/\a<5/\MT a=gx c/\MS a=gw c/\(n=2->a=0)):=by
 by_cases h1:c<0x80;·exact .inl ⟨h1,by unfold ug;rw[if_pos h1]⟩
 ·by_cases h2:c<0xC2\/0xF4<c;·exact .inr (.inl ⟨by omega,by unfold ug;rw[if_neg h1,if_pos h2]⟩)
  ·refine .inr (.inr ⟨by omega,by omega,?_⟩);have hc:c<256:=by omega
   have key:∀c:Fin 256,¬(c.val<0x80)->¬(c.val<0xC2\/0xF4<c.val)->(ug c.val=(ug c.val/16)*16+ug c.val %16/\ug c.val %16=gW c.val/\(ug c.val %16=2\/ug c.val %16=3\/ug c.val %16=4)/\ug c.val/16<5/\MT (ug c.val/16)=gx c.val/\MS (ug c.val/16)=gw c.val/\(ug c.val %16=2->ug c.val/16=0)):=by decide+kernel
   have:=key ⟨c,hc⟩ h1 h2;exact⟨ug c %16,ug c/16,this⟩
theorem BE(s:ByteArray)(w:World)(hU:Aj w)(hs:s.size<=1000000):Calls Tryz.prog 53 #[.string s] w fun e w'=>∃b:Bool,e=Rw (.bool b)/\(b=true↔full s.data.toList)/\Gr w w':=by
 by_cases h0:s.size=0
 ·have hf:¬full s.data.toList:=fun h=>h.1 (jy.1 (by rw[jV];exact h0));have ZV:((s.size:Int)==0)=true:=by rw[h0];rfl
  clear hU;go_enter Tryz.func53,Tryz.ntmps53;go_wp2;go_ret;exact⟨false,rfl,⟨fun h=>(nomatch h),fun h=>absurd h hf⟩,Gr.refl w⟩
 ·have ZV:((s.size:Int)==0)=false:=beq_eq_false_iff_ne.2 (by omega);have hp:0<s.size:=by omega
  have _q:(0:Int)<(s.size:Int):=by omega
  obtain⟨c,hc⟩:∃c,(s[0]'hp).toNat=c:=⟨_,rfl⟩;have hcl:c<256:=by rw[<-hc];exact UInt8.toNat_lt _
  have wC:aQ s.data.toList 0=c:=by rw[ED s 0 hp,hc]
  have ci:=hU.fi c hcl;have bj:s.data.toList≠[]:=fun h=>by have h2:=jV s;rw[h]at h2;have h3:(0:Nat)=s.size:=h2;omega
  have HF:Hid (full s.data.toList↔(c<0xC2\/0xF4<c\/gW c<=s.size\/(1<s.size/\(aQ s.data.toList 1<gx c\/gw c<aQ s.data.toList 1))\/(2<s.size/\(aQ s.data.toList 2<0x80\/0xBF<aQ s.data.toList 2)))):=by show _↔_;unfold full;rw[wC,jV];exact⟨fun h=>h.2,fun h=>⟨bj,h⟩⟩
  rcases Kf c with⟨h1,h2⟩|⟨h1,h2⟩|⟨h1,h2,n,a,h3,h4,h5,h6,h7,h8,h9⟩;·rw[h2]at ci;clear hU;go_enter Tryz.func53,Tryz.ntmps53;go_wp2;go_ret;exact⟨true,rfl,⟨fun _=>HF.out.2 (.inl (by omega)),fun _=>rfl⟩,Gr.refl w⟩
  ·rw[h2]at ci;have hs1:(1:Int)<=(s.size:Int):=by omega
   clear hU;go_enter Tryz.func53,Tryz.ntmps53;go_wp2;go_ret;exact⟨true,rfl,⟨fun _=>HF.out.2 (by omega),fun _=>rfl⟩,Gr.refl w⟩
  ·obtain⟨x,hx⟩:∃x,ug c=x:=⟨_,rfl⟩;rw[hx]at ci h3;have hx8:(x:Int) %8=(n:Int):=by omega
   have zhO:(x:Int)/16=(a:Int):=by omega
   have cl:=hU.lo a h6;have ch:=hU.hi a h6;rw[h7]at cl;rw[h8]at ch;rw[<-h4]at HF;obtain⟨lo,ri⟩:∃z,gx c=z:=⟨_,rfl⟩;obtain⟨hi,KA⟩:∃z,gw c=z:=⟨_,rfl⟩;rw[ri]at cl;rw[KA]at ch;rw[ri,KA]at HF;clear hx h3 h7 h8 ri KA h4 hU wC bj;by_cases hn:n<=s.size
   ·have YA:(n:Int)<=(s.size:Int):=by omega
    go_enter Tryz.func53,Tryz.ntmps53;go_wp2;go_ret;exact⟨true,rfl,⟨fun _=>HF.out.2 (.inr (.inr (.inl hn))),fun _=>rfl⟩,Gr.refl w⟩
   ·have YA:¬(n:Int)<=(s.size:Int):=by omega
    go_enter Tryz.func53,Tryz.ntmps53;go_wp2_with fail;obtain⟨S,hS⟩:∃z,w.heap.size=z:=⟨_,rfl⟩;obtain⟨W0,bc⟩:∃z,w.alloc (.cells #[.int .u8 (lo:Int),.int .u8 (hi:Int)] 169)=z:=⟨_,rfl⟩;have G0:Hid (Gr w W0):=by rw[<-bc];exact(Gr.refl w).alloc _
    have z0:W0.cell? (aq S 0)=some (.int .u8 (lo:Int)):=by rw[<-bc,<-hS,World.cell?_alloc_at _ _ _ _ rfl];rfl
    have z1:W0.cell? (aq S 1)=some (.int .u8 (hi:Int)):=by rw[<-bc,<-hS,World.cell?_alloc_at _ _ _ _ rfl];rfl
    rw[bc,hS];clear bc hS ci cl ch hx8 zhO;by_cases jD:1<s.size
    ·have zhv:decide ((1:Int)<(s.size:Int))=true:=decide_eq_true (by omega);have zo6:(1:Int)<(s.size:Int):=by omega
     obtain⟨b1,hb1⟩:∃c,(s[1]'jD).toNat=c:=⟨_,rfl⟩;have HB1:Hid (aQ s.data.toList 1=b1):=by show _=_;rw[ED s 1 jD,hb1]
     rw[HB1.out]at HF;by_cases k1:b1<lo;·have k1':decide ((b1:Int)<(lo:Int))=true:=decide_eq_true (by omega);go_quiet(fail);go_wp2;go_ret;exact⟨true,rfl,⟨fun _=>HF.out.2 (by omega),fun _=>rfl⟩,G0.out.trans ((Gr.refl _).drewN _)⟩
     ·have k1':decide ((b1:Int)<(lo:Int))=false:=decide_eq_false (by omega);by_cases k2:hi<b1;·have k2':decide ((hi:Int)<(b1:Int))=true:=decide_eq_true (by omega);go_quiet(fail);go_wp2;go_ret;exact⟨true,rfl,⟨fun _=>HF.out.2 (by omega),fun _=>rfl⟩,G0.out.trans ((Gr.refl _).drewN _)⟩
      ·have k2':decide ((hi:Int)<(b1:Int))=false:=decide_eq_false (by omega);by_cases _x:2<s.size
       ·have zhw:(2:Int)<(s.size:Int):=by omega
        have zb':decide ((2:Int)<(s.size:Int))=true:=decide_eq_true zhw;obtain⟨b2,dE⟩:∃c,(s[2]'_x).toNat=c:=⟨_,rfl⟩;have HB2:Hid (aQ s.data.toList 2=b2):=by show _=_;rw[ED s 2 _x,dE]
        rw[HB2.out]at HF;by_cases k3:b2<128;·have k3':decide ((b2:Int)<128)=true:=decide_eq_true (by omega);go_quiet(fail);go_wp2;go_ret;exact⟨true,rfl,⟨fun _=>HF.out.2 (by omega),fun _=>rfl⟩,G0.out.trans ((Gr.refl _).drewN _)⟩
        ·have k3':decide ((b2:Int)<128)=false:=decide_eq_false (by omega);by_cases k4:191<b2;·have k4':decide ((191:Int)<(b2:Int))=true:=decide_eq_true (by omega);go_quiet(fail);go_wp2;go_ret;exact⟨true,rfl,⟨fun _=>HF.out.2 (by omega),fun _=>rfl⟩,G0.out.trans ((Gr.refl _).drewN _)⟩
         ·have k4':decide ((191:Int)<(b2:Int))=false:=decide_eq_false (by omega);go_quiet(fail);go_wp2;go_ret;exact⟨false,rfl,⟨fun h=>(nomatch h),fun h=>by exfalso;have:=HF.out.1 h;omega⟩,G0.out.trans ((Gr.refl _).drewN _)⟩
       ·have zb':decide ((2:Int)<(s.size:Int))=false:=decide_eq_false (by omega);go_quiet(fail);go_wp2;go_ret;exact⟨false,rfl,⟨fun h=>(nomatch h),fun h=>by exfalso;have:=HF.out.1 h;omega⟩,G0.out.trans ((Gr.refl _).drewN _)⟩
    ·have zhv:decide ((1:Int)<(s.size:Int))=false:=decide_eq_false (by omega);have zb':decide ((2:Int)<(s.size:Int))=false:=decide_eq_false (by omega);go_quiet(fail);go_wp2;go_ret;exact⟨false,rfl,⟨fun h=>(nomatch h),fun h=>by exfalso;have:=HF.out.1 h;omega⟩,G0.out.trans ((Gr.refl _).drewN _)⟩
def Vd(l:List UInt8):Prop:=(0xC2<=aQ l 0/\aQ l 0<=0xF4)/\(1<l.length/\gx (aQ l 0)<=aQ l 1/\aQ l 1<=gw (aQ l 0))/\(2<gW (aQ l 0)->2<l.length/\0x80<=aQ l 2/\aQ l 2<=0xBF)/\(3<gW (aQ l 0)->3<l.length/\0x80<=aQ l 3/\aQ l 3<=0xBF)
theorem Qs{l:List UInt8}(XZ:0x80<=aQ l 0):(Vd l/\Az l=gW (aQ l 0))\/(¬Vd l/\Az l=0):=by
 unfold Az Vd;rw[if_neg (by omega)];by_cases b:aQ l 0<0xC2\/0xF4<aQ l 0;·rw[if_pos b];right;exact⟨fun q=>by omega,rfl⟩
 ·rw[if_neg b];by_cases m1:Es l 1 (gx (aQ l 0)) (gw (aQ l 0))=true
  ·rw[if_neg (by rw[m1];decide)];have g1:=(kC _ _ _ _).1 m1;by_cases m2:Es l 2 0x80 0xBF=true
   ·have g2:=(kC _ _ _ _).1 m2;rw[if_neg (fun q=>by rw[m2]at q;exact absurd q.2 (by decide))];by_cases m3:Es l 3 0x80 0xBF=true;·have g3:=(kC _ _ _ _).1 m3;rw[if_neg (fun q=>by rw[m3]at q;exact absurd q.2 (by decide))];left;exact⟨⟨by omega,g1,fun _=>g2,fun _=>g3⟩,rfl⟩
    ·have g3:=(qv _ _ _ _).1 (by simpa using m3);by_cases n3:3<gW (aQ l 0);·rw[if_pos ⟨n3,by simpa using m3⟩];right;exact⟨fun q=>g3 (q.2.2.2 n3),rfl⟩
     ·rw[if_neg (fun q=>n3 q.1)];left;exact⟨⟨by omega,g1,fun _=>g2,fun q=>absurd q n3⟩,rfl⟩
   ·have g2:=(qv _ _ _ _).1 (by simpa using m2);by_cases n2:2<gW (aQ l 0);·rw[if_pos ⟨n2,by simpa using m2⟩];right;exact⟨fun q=>g2 (q.2.2.1 n2),rfl⟩
    ·rw[if_neg (fun q=>n2 q.1),if_neg (fun q=>by omega)];left;exact⟨⟨by omega,g1,fun q=>absurd q n2,fun q=>by omega⟩,rfl⟩
  ·have g1:=(qv _ _ _ _).1 (by simpa using m1);rw[if_pos (by simpa using m1)];right;exact⟨fun q=>g1 q.2.1,rfl⟩
theorem Od{l:List UInt8}(hl:l≠[])(h:Az l=l.length):full l:=by
 have hp:0<l.length:=io.2 hl;by_cases XZ:aQ l 0<0x80;·exact⟨hl,.inl (by omega)⟩
 ·rcases Qs (l:=l) (by omega)with⟨v,e⟩|⟨_,e⟩;·exact⟨hl,.inr (.inr (.inl (by omega)))⟩
  ·omega
