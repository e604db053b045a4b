/- What is proved here: term.Copy and term.CopyAll of right terms that lie in memory: what they return is the same, and lies in new memory alone; no memory that was there is turned. No condition but those. -/
import Derived.Test.YtckamaoibonjcaaGreatG06
import Derived.Test.YtckamaoibonjcaaGreatG07
namespace Go.Proofs.YtckamaoibonjcaaGreat
open Go.RowKit
set_option maxHeartbeats 1000000
theorem dD(s:ByteArray)(w:World)(b:s.size<=2048):ah 41 #[.string s] w λe w'=>e=.returned (.string s)/\ag w w':=by
 go_enter Tryz.func41,Tryz.ntmps41;go_wp2_with (go_at_call 67;refine(Tryz.stringslite_Clone s w (by omega)).mono ?_;rintro e w' ⟨rfl,a⟩)
 go_ret
 exact⟨rfl,a⟩
theorem kL(a:Option Addr)(pc:Nat)(w:World):ah 82 #[.slice a 0 pc] w λe w'=>e=.returned (.slice none 0 0)/\w'=w:=by
 go_enter Tryz.func82,Tryz.ntmps82;go_wp2_with fail
 go_ret
 exact⟨rfl,rfl⟩
theorem qk(n:Nat)(p:List (Tm n))(len:Nat){w w1:World}(a:w1.ownsRow w.heap.size 30 4 (.slice (some ⟨w.heap.size,0,none⟩) len len) len (madeCells (Value.agg #[.int .i64 0,.int .i64 0,.string .empty,.slice none 0 0]).cells (len*4)).toList):tj n p len w.heap.size 0 [] w1:=by
 refine⟨rfl,?_,(λd c=>by cases c),rfl⟩;have b:(madeCells (Value.agg #[.int .i64 0,.int .i64 0,.string .empty,.slice none 0 0]).cells (len*4)).toList=fF (List.replicate len zA):=Fu len;rw[b]at a;unfold mn;simpa using a
theorem xz(n:Nat)(ih:NQ n)(p:List (Tm n))(len:Nat)(M:Hid (p.length=len))(r po pc:Nat)(B:Nat)(w:World)(ap:0<len)(az:len<=1048576)(X:r<B)(u:∀(i:Nat)(y:Tm n),p[i]?=some y->dy w r (po+i*4) n y/\In B w n y)(N:∀y∈p,av ⟨n,y⟩)(G:B<=w.heap.size):ah 82 #[.slice (some ⟨r,po,none⟩) len pc] w λe w'=>∃l,e=.returned (.slice (some ⟨w.heap.size,0,none⟩) len len)/\Hid (gn n p w w' (some ⟨w.heap.size,0,none⟩) len l):=by
 obtain⟨Y,I,O,P,Q⟩:=bO fR;have ay:((len:Int)==0)=false:=by simp;omega
 go_enter Tryz.func82,Tryz.ntmps82;go_wp2_with (at_make;refine ke _ rfl _ _ 28 rfl w.heap.size 30 Y _ 4 Tryz.underlying28 I O P _ _ _ _ len rfl rfl rfl rfl (by rw[Q];omega) (by unfold maxLen;omega) (ai _) ?_;intro aa L f);have E:=aj (qk n p len L);have z:Hid (ag w aa):=⟨f.os,f.tape,f.output,f.size,λk J=>f.block k J (by simp)⟩;clear L f I O P Q;go_wp2_with fail;go_loopw [14] (λi wr=>∃k:Nat,k<=len/\i=.int .i64 k/\Hid (ag w wr/\∃l,tj n p len w.heap.size k l wr)) (λi _=>len-(intOf i).toNat)
 case atStart=>exact⟨0,by omega,rfl,z.out,[],E.out⟩
 case round=>
  obtain⟨k,J,rfl,C⟩:=hrel;obtain⟨g,l,d⟩:Hid (ag w wr)/\∃l,Hid (tj n p len w.heap.size k l wr):=C.out;clear C;by_cases K:k<len
  ·obtain⟨a,m⟩:∃a,p[k]?=some a:=⟨p[k]'(by rw[M.out];exact K),aD _⟩;obtain⟨o,q⟩:=u k a m;have V:=aj m;have D:=aj (N a (aC m));replace o:=o.below (g.out.mono G) X;replace q:=q.below (g.out.mono G);have W:w.heap.size<wr.heap.size:=d.out.2.1.lt.2;have H:B<=wr.heap.size:=by omega
   clear u m N E z;cases n with
   | zero=>exact o.elim
   | succ n=>
   obtain⟨ab,ad,ae,af⟩:=o
   have A:Hid (∀(b:World),ag wr b->ah 54 #[.agg #[.int .i64 a.1.1,.int .i64 a.1.2.1,.string a.1.2.2,.slice a.2.1.1 a.2.2.length a.2.1.2]] b λe w'=>∃y:Tm (n+1),e=.returned (dd (n+1) y)/\Hid (ag b w'/\In w'.heap.size w' (n+1) y/\bV (λs=>b.heap.size<=s) (n+1) y/\au (n+1) y (n+1) a=true)):=
    λb c=>ih a B b (q.below (c.mono H)) (aw H c.size) D.out
   clear ih q D;generalize a.2.2.length=aB at*;have ar:(0:Int)<=(k:Int):=by omega
   have ax:(k:Int)<(len:Int):=by omega
   have aA:r<wr.heap.size:=by omega
   go_wp2_with fail;refine(A.out _ ((ak _ _).alloc (ai _) _)).mono ?_;rintro e b ⟨y,rfl,h⟩;have j:Hid (ag wr b):=((ak _ _).alloc (ai _) _).trans (h.out.1.mono (by simp));have U:=aj (d.out.step K a V.out j.out y h.out.2.1 (h.out.2.2.1.mono λs v=>by simp at v;omega) h.out.2.2.2);have t:=aj (d.out.2.1.below j.out);have S:Hid (ag w (iT b w.heap.size (k*4) (fQ (n+1) y))):=by
    have c:=g.out.trans (j.out.mono (Nat.le_of_lt W));exact⟨c.os,c.tape,c.output,aw c.size (dk (bf _ _ _ _).symm),λs v=>(aR (by omega) _ _ _ _).trans (c.block s v)⟩
   obtain⟨x,R⟩:∃x,(l.map (λa=>(⟨n+1,a⟩:An))++List.replicate (len-k) zA)[k]?=some x:=⟨_,aD (by simp[d.out.1];omega)⟩;obtain⟨al,am,an,ao⟩:=t.out.cells k x R;have aq:=λZ=>t.out.free Z;have F:dd (n+1) y=.agg #[.int .i64 y.1.1,.int .i64 y.1.2.1,.string y.1.2.2,.slice y.2.1.1 y.2.2.length y.2.1.2]:=rfl;rw[F];clear A d g h j t ab ad ae af R F;go_wp2_with fail;go_roundw
   case rel=>exact⟨k+1,by omega,by go_num,S.out,l++ [y],U.out⟩
   case measure=>simp[intOf];omega
  ·have T:=aj (d.out.done M.out (by omega) g.out (by unfold maxLen;omega));clear d u;go_wp2_with fail
   go_ret
   exact⟨l,rfl,T.out⟩
def NP(n:Nat):Prop:=∀(p:List (Tm n))(a:Option Addr)(pc B:Nat)(w:World),(p=[]\/∃b o,a=some ⟨b,o,none⟩/\b<B/\∀(i:Nat)(y:Tm n),p[i]?=some y->dy w b (o+i*4) n y/\In B w n y)->p.length<=1048576->(∀y∈p,av ⟨n,y⟩)->B<=w.heap.size->
 ah 82 #[.slice a p.length pc] w λe w'=>∃c d l,e=.returned (.slice c p.length d)/\Hid (gn n p w w' c d l)
theorem rU(n:Nat)(ih:NQ n):NP n:=by
 intro c i pc g d a p q k;rcases a with a|⟨b,o,rfl,m,a⟩
 ·subst a;refine(kL i pc d).mono ?_;rintro e f ⟨rfl,rfl⟩;exact⟨none,0,[],rfl,ak _ _,rfl,ai _,aB _,rfl,ae rfl⟩
 ·by_cases j:c.length=0
  ·have:c=[]:=bD j;subst this;refine(kL _ pc d).mono ?_;rintro e f ⟨rfl,rfl⟩;exact⟨none,0,[],rfl,ak _ _,rfl,ai _,aB _,rfl,ae rfl⟩
  ·refine(xz n ih c c.length rfl b o pc g d (by omega) p m a q k).mono ?_;rintro e f ⟨l,rfl,h⟩;exact⟨_,_,l,rfl,h⟩
theorem EB{w w1:World}{a b:Obj}(c:Below ((w.alloc a).alloc b).drew.heap.size ((w.alloc a).alloc b).drew w1):ag w w1/\w.heap.size<w1.heap.size/\w.heap.size+1<w1.heap.size:=by
 have d:ag w ((w.alloc a).alloc b).drew:=(((ak _ _).alloc (ai _) _).alloc (by simp) _).drew;have f:=c.size;have e:((w.alloc a).alloc b).drew.heap.size=w.heap.size+2:=by simp[World.drew]
 exact⟨d.trans (c.mono d.size),by omega,by omega⟩
theorem gh{B:Nat}{w w1:World}(a:Below B w w1):∀b o,b<B->w1.frozen? ⟨b,o,none⟩=w.frozen? ⟨b,o,none⟩:=λb o c=>a.frozen (p:=⟨b,o,none⟩) c
theorem GA{w w':World}{v0 v1 v2 v3 e f g h:Value}{t i:TypeId}(d:Below ((w.alloc (.cells #[v0,v1,v2,v3] t)).alloc (.cells #[e,f,g,h] i)).drew.heap.size ((w.alloc (.cells #[v0,v1,v2,v3] t)).alloc (.cells #[e,f,g,h] i)).drew w'):(w'.cell? ⟨w.heap.size,0,none⟩=some v0/\w'.cell? ⟨w.heap.size,1,none⟩=some v1/\w'.cell? ⟨w.heap.size,2,none⟩=some v2/\w'.cell? ⟨w.heap.size,3,none⟩=some v3)/\ w'.cell? ⟨w.heap.size+1,0,none⟩=some e/\w'.cell? ⟨w.heap.size+1,1,none⟩=some f/\w'.cell? ⟨w.heap.size+1,2,none⟩=some g/\w'.cell? ⟨w.heap.size+1,3,none⟩=some h/\ w'.frozen? ⟨w.heap.size+1,0,none⟩=false/\w'.frozen? ⟨w.heap.size+1,1,none⟩=false/\w'.frozen? ⟨w.heap.size+1,2,none⟩=false/\w'.frozen? ⟨w.heap.size+1,3,none⟩=false:=by
 have a:=λo=>d.cell (p:=⟨w.heap.size,o,none⟩) (by simp[World.drew];try omega);have b:=λo=>d.cell (p:=⟨w.heap.size+1,o,none⟩) (by simp[World.drew];try omega);have c:=λo=>d.frozen (p:=⟨w.heap.size+1,o,none⟩) (by simp[World.drew];try omega);exact⟨⟨(a 0).trans (by simp[go_sem]),(a 1).trans (by simp[go_sem]),(a 2).trans (by simp[go_sem]),(a 3).trans (by simp[go_sem])⟩,(b 0).trans (by simp[go_sem]),(b 1).trans (by simp[go_sem]),(b 2).trans (by simp[go_sem]),(b 3).trans (by simp[go_sem]),(c 0).trans (by simp[go_sem]),(c 1).trans (by simp[go_sem]),(c 2).trans (by simp[go_sem]),(c 3).trans (by simp[go_sem])⟩
theorem BQ{w1 w2:World}{q:Nat}{e f g h:Value}(a:q<w1.heap.size)(d:ag w1 w2)(k:w1.cell? ⟨q,0,none⟩=some e/\w1.cell? ⟨q,1,none⟩=some f/\w1.cell? ⟨q,2,none⟩=some g/\w1.cell? ⟨q,3,none⟩=some h/\ w1.frozen? ⟨q,0,none⟩=false/\w1.frozen? ⟨q,1,none⟩=false/\w1.frozen? ⟨q,2,none⟩=false/\w1.frozen? ⟨q,3,none⟩=false):w2.cell? ⟨q,0,none⟩=some e/\w2.cell? ⟨q,1,none⟩=some f/\w2.cell? ⟨q,2,none⟩=some g/\w2.cell? ⟨q,3,none⟩=some h/\ w2.frozen? ⟨q,0,none⟩=false/\w2.frozen? ⟨q,1,none⟩=false/\w2.frozen? ⟨q,2,none⟩=false/\w2.frozen? ⟨q,3,none⟩=false:=by
 obtain⟨i,j,l,m,n,d1,o,p⟩:=k;have b:=am d;have c:=gh d;exact⟨(b _ _ a).trans i,(b _ _ a).trans j,(b _ _ a).trans l,(b _ _ a).trans m,(c _ _ a).trans n,(c _ _ a).trans d1,(c _ _ a).trans o,(c _ _ a).trans p⟩
theorem gn.box{n:Nat}{p:List (Tm n)}{w w1 w2:World}{a:Option Addr}{c:Nat}{l:List (Tm n)}(r:gn n p w1 w2 a c l)(h:ag w w1)(f:w.heap.size+1<w1.heap.size)(v0 v1 v2 v3:Value):gn n p w (cE w2 (w.heap.size+1) 0 v0 v1 v2 v3) a c l:=by
 obtain⟨s,t,u,v,x,d⟩:=r;have e:=h.trans (s.mono h.size);have F:=h.size;refine⟨⟨e.os,e.tape,e.output,aw e.size (dk (bf _ _ _ _).symm),λj f=>(aR (by omega) _ _ _ _).trans (e.block j f)⟩,t,u,v,x,?_⟩;rcases d with d|⟨b,o,q,i,y,d⟩
 ·exact ae d
 ·refine af ⟨b,o,q,⟨by omega,i.2.1,λB=>?_,i.2.2.2⟩,by rw[bf];exact y,λA E z=>?_⟩
  ·have k:=i.2.2.1 B;unfold World.frozen? at k ⊢;rw[aR (w:=w2) (g:=w.heap.size+1) (b:=b) (o:=0) (by omega) v0 v1 v2 v3];exact k
  obtain⟨C,D,m⟩:=d A E z;refine⟨C.block (aR (by omega) _ _ _ _),?_,m.mono λj f=>by omega⟩;rw[bf];exact In.off (λj f=>aR (by omega) _ _ _ _) m D
theorem lF(x:Nd)(a:cm x=true):x.2.2.1<=8:=by
 by_cases b:x.1.1=4
 ·simp[cm,b]at a;omega
 ·have:=(eg x a).2.2.2.2 b;omega
theorem ru(x:Nd)(a:cm x=true):x.1.2.2.size<=8:=by
 by_cases c:x.1.1=2
 ·simp[cm,c,dC,pT]at a;omega
 ·have b:=(eg x a).1 c;have e:x.1.2.2.data.toList=[]:=by rw[bW]at b;exact b
  have:x.1.2.2.size=0:=by
   have d:x.1.2.2.size=x.1.2.2.data.toList.length:=by rw[gS];rfl
   rw[d,e];rfl
  omega
theorem rk(n:Nat)(k g:Int)(s:ByteArray)(a:Option Addr)(len pc:Nat)(p:List (Tm n))(w:World)(F:s.size<=2048)(m:Hid (∀w1,ag w w1->ah 82 #[.slice a len pc] w1 λe w'=>∃b c l,e=.returned (.slice b len c)/\Hid (gn n p w1 w' b c l))):ah 54 #[.agg #[.int .i64 k,.int .i64 g,.string s,.slice a len pc]] w λe w'=>∃b c l,e=.returned (.agg #[.int .i64 k,.int .i64 g,.string s,.slice b len c])/\Hid (gn n p w w' b c l):=by
 go_enter Tryz.func54,Tryz.ntmps54;go_wp2_with fail;go_region_held3 (λw'=>w'.cell? ⟨w.heap.size,0,none⟩=some (.int .i64 k)/\w'.cell? ⟨w.heap.size,1,none⟩=some (.int .i64 g)/\w'.cell? ⟨w.heap.size,2,none⟩=some (.string s)/\w'.cell? ⟨w.heap.size,3,none⟩=some (.slice a len pc)) (go_keep) ((first|(go_at_call 41;refine(dD s _ F).mono ?_;rintro e w1 ⟨rfl,i⟩;have f:=aj (EB i);have d:=aj (GA i);have q:=d.out.1.1;have r:=d.out.1.2.1;have t:=d.out.1.2.2.1;have u:=d.out.1.2.2.2;clear i)|(go_at_call 82;refine(m.out _ f.out.1).mono ?_;rintro e J ⟨b,c,l,rfl,h⟩;have j:=aj (BQ f.out.2.2 h.out.1 d.out.2);obtain⟨B,C,D,E,G,d1,H,I⟩:=j.out;obtain⟨x,y,z,A⟩:=nh f.out.2.1 h.out.1 d.out.1)));have o:=aj (h.out.box f.out.1 f.out.2.2 (.int .i64 k) (.int .i64 g) (.string s) (.slice b len c));clear h f d j q r t u x y z A;go_wp2_with fail;exact ap (v:=.agg #[.int .i64 k,.int .i64 g,.string s,.slice b len c]) (by simp[results,Tryz.results54,go_sem,B,C,D,E]) rfl ⟨b,c,l,rfl,o.out⟩
theorem gM(n:Nat):NQ n:=by
 induction n with
 | zero=>intro a m u k;exact k.elim
 | succ n ih=>
  intro a m u k j t;have E:=k;obtain⟨⟨G,H,D,K,J⟩,h⟩:=E;have s:=t (bu n a) (by simp[ar,bu]);have I:a.2.2.length<=8:=lF (bu n a) s;have C:a.1.2.2.size<=2048:=by have:=ru (bu n a) s;simp only[bu]at this;omega
  refine(rk n a.1.1 a.1.2.1 a.1.2.2 a.2.1.1 a.2.2.length a.2.1.2 a.2.2 u C ?_).mono ?_
  ·intro F i;refine rU n ih a.2.2 a.2.1.1 a.2.1.2 m F ?_ (by omega) (λe d=>aN n a e t d) (aw j i.size);rcases h with h|⟨b,o,g,p,h⟩
   ·exact ae h
   ·exact af ⟨b,o,g,p,λf e d=>⟨(h f e d).1.below (i.mono j) p,(h f e d).2.below (i.mono j)⟩⟩
  ·rintro g L ⟨w,x,l,rfl,v⟩;obtain⟨i,y,z,A,B,c⟩:=v.out;refine⟨(a.1,(w,x),l),by rw[<-y];rfl,i,⟨⟨G,H,D,z,A⟩,?_⟩,?_,?_⟩
   ·rcases c with c|⟨b,o,g,q,r,c⟩
    ·exact ae c
    ·exact af ⟨b,o,g,r,λf e d=>⟨(c f e d).1,(c f e d).2.1⟩⟩
   ·rcases c with c|⟨b,o,g,q,r,c⟩
    ·exact ae c
    ·exact af ⟨b,o,g,q.1,λf e d=>(c f e d).2.2⟩
   ·simp only[au];simp[B]
end Go.Proofs.YtckamaoibonjcaaGreat
