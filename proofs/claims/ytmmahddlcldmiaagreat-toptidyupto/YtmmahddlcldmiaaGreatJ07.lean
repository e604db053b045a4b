/- What is proved here: term.Copy and term.CopyAll of right terms that lie in memory: what they return is the same, and lies in new memory alone; no memory that was there is turned. No condition but those. -/
import Derived.Test.YtmmahddlcldmiaaGreatJ05
import Derived.Test.YtmmahddlcldmiaaGreatJ06
namespace Go.Proofs.YtmmahddlcldmiaaGreat
open Go.RowKit Tryz
set_option maxHeartbeats 1000000
theorem dW(s:ap)(w:ag)(b:s.size<=2048):am 63 #[af s] w λe w'=>e=.returned (af s)/\ak w w':=by
 go_enter func63,ntmps63;go_wp2_with (go_at_call 98;refine(Tryz.stringslite_Clone s w (by omega)).mono ?_;rintro e w' ⟨rfl,a⟩)
 go_ret
 exact⟨rfl,a⟩
theorem lM(a:aw)(pc:Nat)(w:ag):am 89 #[ae a 0 pc] w λe w'=>e=.returned (ae none 0 0)/\w'=w:=by
 go_enter func89,ntmps89;go_wp2_with fail
 go_ret
 exact⟨rfl,rfl⟩
variable{w w1 w2:ag}{a b c d:av}
theorem rq(n:Nat)(p:List (Tm n))(len:Nat)(a:w1.ownsRow w.heap.size 31 4 (ae (some ⟨w.heap.size,0,none⟩) len len) len (madeCells (Value.agg #[ab 0,ab 0,af .empty,ae none 0 0]).cells (len*4)).toList):ur n p len w.heap.size 0 [] w1:=by
 refine⟨rfl,?_,(λd c=>by cases c),rfl⟩;have b:(madeCells (Value.agg #[ab 0,ab 0,af .empty,ae none 0 0]).cells (len*4)).toList=fZ (List.replicate len zA):=GU len;rw[b]at a;unfold ns;simpa using a
theorem yY(n:Nat)(ih:PG n)(p:List (Tm n))(len:Nat)(M:Hid (p.length=len))(r po pc:Nat)(B:Nat)(w:ag)(av:0<len)(aA:len<=1048576)(X:r<B)(u:∀(i:Nat)(y:Tm n),p[i]?=some y->dH w r (po+i*4) n y/\In B w n y)(N:∀y∈p,aI ⟨n,y⟩)(G:B<=w.heap.size):am 89 #[ae (some ⟨r,po,none⟩) len pc] w λe w'=>∃l,e=.returned (ae (some ⟨w.heap.size,0,none⟩) len len)/\Hid (gQ n p w w' (some ⟨w.heap.size,0,none⟩) len l):=by
 obtain⟨Y,I,O,P,Q⟩:=bW gw;have az:((len:Int)==0)=false:=by simp;omega
 go_enter func89,ntmps89;go_wp2_with (at_make;refine kY _ rfl _ _ 29 rfl w.heap.size 31 Y _ 4 underlying29 I O P _ _ _ _ len rfl rfl rfl rfl (by rw[Q];omega) (by unfold maxLen;omega) (ao _) ?_;intro aa L f);have E:=au (rq n p len L);have z:Hid (ak w aa):=⟨f.os,f.tape,f.output,f.size,λk J=>f.block k J (by simp)⟩;clear L f I O P Q;go_wp2_with fail;go_loopw [14] (λi wr=>∃k:Nat,k<=len/\i=ab k/\Hid (ak w wr/\∃l,ur n p len w.heap.size k l wr)) (λi _=>len-(intOf i).toNat)
 case atStart=>exact⟨0,by omega,rfl,z,[],E⟩
 case round=>
  obtain⟨k,J,rfl,C⟩:=hrel;obtain⟨g,l,d⟩:Hid (ak w wr)/\∃l,Hid (ur n p len w.heap.size k l wr):=C.out;clear C;by_cases K:k<len
  ·obtain⟨a,m⟩:∃a,p[k]?=some a:=⟨p[k]'(by rw[M.out];exact K),aM _⟩;obtain⟨o,q⟩:=u k a m;have V:=au m;have D:=au (N a (aN m));replace o:=o.below (g.mono G) X;replace q:=q.below (g.mono G);have W:w.heap.size<wr.heap.size:=d.2.1.lt.2;have H:B<=wr.heap.size:=by omega
   clear u m N E z;cases n with
   | zero=>exact o.elim
   | succ n=>
   obtain⟨ad,ah,ai,aj⟩:=o
   have A:Hid (∀(b:ag),ak wr b->am 56 #[.agg #[ab a.1.1,ab a.1.2.1,af a.1.2.2,ae a.2.1.1 a.2.2.length a.2.1.2]] b λe w'=>∃y:Tm (n+1),e=.returned (dw (n+1) y)/\Hid (ak b w'/\In w'.heap.size w' (n+1) y/\cr (λs=>b.heap.size<=s) (n+1) y/\aB (n+1) y (n+1) a=true)):=
    λb c=>ih a B b (q.below (c.mono H)) (aD H c.size) D
   clear ih q D;generalize a.2.2.length=aE at*;have ax:(0:Int)<=(k:Int):=by omega
   have ay:(k:Int)<(len:Int):=by omega
   have aC:r<wr.heap.size:=by omega
   go_wp2_with fail;refine(A _ ((aq _ _).alloc (ao _) _)).mono ?_;rintro e b ⟨y,rfl,h⟩;have j:Hid (ak wr b):=((aq _ _).alloc (ao _) _).trans (h.1.mono (by simp));have U:=au (d.step K a V j y h.2.1 (h.2.2.1.mono λs v=>by simp at v;omega) h.2.2.2);have t:=au (d.2.1.below j);have S:Hid (ak w (jD b w.heap.size (k*4) (gu (n+1) y))):=by
    have c:=g.trans (j.mono (Nat.le_of_lt W));exact⟨c.os,c.tape,c.output,aD c.size (dF (bA _ _ _ _).symm),λs v=>(bj (by omega) _ _ _ _).trans (c.block s v)⟩
   obtain⟨x,R⟩:∃x,(l.map (λa=>(⟨n+1,a⟩:An))++List.replicate (len-k) zA)[k]?=some x:=⟨_,aM (by simp[d.out.1];omega)⟩;obtain⟨al,an,ap,ar⟩:=t.out.cells k x R;have aw:=λZ=>t.free Z;have F:dw (n+1) y=.agg #[ab y.1.1,ab y.1.2.1,af y.1.2.2,ae y.2.1.1 y.2.2.length y.2.1.2]:=rfl;rw[F];clear A d g h j t ad ah ai aj R F;go_wp2_with fail;go_roundw
   case rel=>exact⟨k+1,by omega,by go_num,S,l++ [y],U⟩
   case measure=>simp[intOf];omega
  ·have T:=au (d.done M (by omega) g (by unfold maxLen;omega));clear d u;go_wp2_with fail
   go_ret
   exact⟨l,rfl,T⟩
def PF(n:Nat):Prop:=∀(p:List (Tm n))(a:aw)(pc B:Nat)(w:ag),(p=[]\/∃b o,a=some ⟨b,o,none⟩/\b<B/\∀(i:Nat)(y:Tm n),p[i]?=some y->dH w b (o+i*4) n y/\In B w n y)->p.length<=1048576->(∀y∈p,aI ⟨n,y⟩)->B<=w.heap.size->
 am 89 #[ae a p.length pc] w λe w'=>∃c d l,e=.returned (ae c p.length d)/\Hid (gQ n p w w' c d l)
theorem tb(n:Nat)(ih:PG n):PF n:=by
 intro c i pc g d a p q k;rcases a with a|⟨b,o,rfl,m,a⟩
 ·subst a;refine(lM i pc d).mono ?_;rintro e f ⟨rfl,rfl⟩;exact⟨none,0,[],rfl,aq _ _,rfl,ao _,aL _,rfl,ai rfl⟩
 ·by_cases j:c.length=0
  ·have:c=[]:=bJ j;subst this;refine(lM _ pc d).mono ?_;rintro e f ⟨rfl,rfl⟩;exact⟨none,0,[],rfl,aq _ _,rfl,ao _,aL _,rfl,ai rfl⟩
  ·refine(yY n ih c c.length rfl b o pc g d (by omega) p m a q k).mono ?_;rintro e f ⟨l,rfl,h⟩;exact⟨_,_,l,rfl,h⟩
theorem FW{a b:Obj}(c:Below ((w.alloc a).alloc b).drew.heap.size ((w.alloc a).alloc b).drew w1):ak w w1/\w.heap.size<w1.heap.size/\w.heap.size+1<w1.heap.size:=by
 have d:ak w ((w.alloc a).alloc b).drew:=(((aq _ _).alloc (ao _) _).alloc (by simp) _).drew;have f:=c.size;have e:((w.alloc a).alloc b).drew.heap.size=w.heap.size+2:=by simp[World.drew]
 exact⟨d.trans (c.mono d.size),by omega,by omega⟩
theorem gM{B:Nat}(a:Below B w w1):∀b o,b<B->w1.frozen? ⟨b,o,none⟩=w.frozen? ⟨b,o,none⟩:=λb o c=>a.frozen (p:=⟨b,o,none⟩) c
theorem IF{w':ag}{v0 v1 v2 v3:av}{t i:TypeId}(h:Below ((w.alloc (.cells #[v0,v1,v2,v3] t)).alloc (.cells #[a,b,c,d] i)).drew.heap.size ((w.alloc (.cells #[v0,v1,v2,v3] t)).alloc (.cells #[a,b,c,d] i)).drew w'):(w'.cell? ⟨w.heap.size,0,none⟩=some v0/\w'.cell? ⟨w.heap.size,1,none⟩=some v1/\w'.cell? ⟨w.heap.size,2,none⟩=some v2/\w'.cell? ⟨w.heap.size,3,none⟩=some v3)/\ w'.cell? ⟨w.heap.size+1,0,none⟩=some a/\w'.cell? ⟨w.heap.size+1,1,none⟩=some b/\w'.cell? ⟨w.heap.size+1,2,none⟩=some c/\w'.cell? ⟨w.heap.size+1,3,none⟩=some d/\ w'.frozen? ⟨w.heap.size+1,0,none⟩=false/\w'.frozen? ⟨w.heap.size+1,1,none⟩=false/\w'.frozen? ⟨w.heap.size+1,2,none⟩=false/\w'.frozen? ⟨w.heap.size+1,3,none⟩=false:=by
 have e:=λo=>h.cell (p:=⟨w.heap.size,o,none⟩) (by simp[World.drew];try omega);have f:=λo=>h.cell (p:=⟨w.heap.size+1,o,none⟩) (by simp[World.drew];try omega);have g:=λo=>h.frozen (p:=⟨w.heap.size+1,o,none⟩) (by simp[World.drew];try omega);exact⟨⟨(e 0).trans (by simp[go_sem]),(e 1).trans (by simp[go_sem]),(e 2).trans (by simp[go_sem]),(e 3).trans (by simp[go_sem])⟩,(f 0).trans (by simp[go_sem]),(f 1).trans (by simp[go_sem]),(f 2).trans (by simp[go_sem]),(f 3).trans (by simp[go_sem]),(g 0).trans (by simp[go_sem]),(g 1).trans (by simp[go_sem]),(g 2).trans (by simp[go_sem]),(g 3).trans (by simp[go_sem])⟩
theorem C3{q:Nat}(e:q<w1.heap.size)(h:ak w1 w2)(k:w1.cell? ⟨q,0,none⟩=some a/\w1.cell? ⟨q,1,none⟩=some b/\w1.cell? ⟨q,2,none⟩=some c/\w1.cell? ⟨q,3,none⟩=some d/\ w1.frozen? ⟨q,0,none⟩=false/\w1.frozen? ⟨q,1,none⟩=false/\w1.frozen? ⟨q,2,none⟩=false/\w1.frozen? ⟨q,3,none⟩=false):w2.cell? ⟨q,0,none⟩=some a/\w2.cell? ⟨q,1,none⟩=some b/\w2.cell? ⟨q,2,none⟩=some c/\w2.cell? ⟨q,3,none⟩=some d/\ w2.frozen? ⟨q,0,none⟩=false/\w2.frozen? ⟨q,1,none⟩=false/\w2.frozen? ⟨q,2,none⟩=false/\w2.frozen? ⟨q,3,none⟩=false:=by
 obtain⟨i,j,l,m,n,d1,o,p⟩:=k;have f:=ax h;have g:=gM h;exact⟨(f _ _ e).trans i,(f _ _ e).trans j,(f _ _ e).trans l,(f _ _ e).trans m,(g _ _ e).trans n,(g _ _ e).trans d1,(g _ _ e).trans o,(g _ _ e).trans p⟩
theorem gQ.box{n:Nat}{p:List (Tm n)}{a:aw}{c:Nat}{l:List (Tm n)}(r:gQ n p w1 w2 a c l)(h:ak w w1)(f:w.heap.size+1<w1.heap.size)(v0 v1 v2 v3:av):gQ n p w (di w2 (w.heap.size+1) 0 v0 v1 v2 v3) a c l:=by
 obtain⟨s,t,u,v,x,d⟩:=r;have e:=h.trans (s.mono h.size);have F:=h.size;refine⟨⟨e.os,e.tape,e.output,aD e.size (dF (bA _ _ _ _).symm),λj f=>(bj (by omega) _ _ _ _).trans (e.block j f)⟩,t,u,v,x,?_⟩;rcases d with d|⟨b,o,q,i,y,d⟩
 ·exact ai d
 ·refine aj ⟨b,o,q,⟨by omega,i.2.1,λB=>?_,i.2.2.2⟩,by rw[bA];exact y,λA E z=>?_⟩
  ·have k:=i.2.2.1 B;unfold World.frozen? at k ⊢;rw[bj (w:=w2) (g:=w.heap.size+1) (b:=b) (o:=0) (by omega) v0 v1 v2 v3];exact k
  obtain⟨C,D,m⟩:=d A E z;refine⟨C.block (bj (by omega) _ _ _ _),?_,m.mono λj f=>by omega⟩;rw[bA];exact In.off (λj f=>bj (by omega) _ _ _ _) m D
theorem mB(x:Nd)(a:cJ x=true):x.2.2.1<=8:=by
 by_cases b:x.1.1=4
 ·simp[cJ,b]at a;omega
 ·have:=(eR x a).2.2.2.2 b;omega
theorem sD(x:Nd)(a:cJ x=true):x.1.2.2.size<=8:=by
 by_cases c:x.1.1=2
 ·simp[cJ,c,dV,qP]at a;omega
 ·have b:=(eR x a).1 c;have e:x.1.2.2.data.toList=[]:=by rw[cE]at b;exact b
  have:x.1.2.2.size=0:=by
   have d:x.1.2.2.size=x.1.2.2.data.toList.length:=by rw[iz];rfl
   rw[d,e];rfl
  omega
theorem sy(n:Nat)(k u:Int)(s:ap)(a:aw)(len pc:Nat)(p:List (Tm n))(w:ag)(F:s.size<=2048)(j:Hid (∀w1,ak w w1->am 89 #[ae a len pc] w1 λe w'=>∃b c l,e=.returned (ae b len c)/\Hid (gQ n p w1 w' b c l))):am 56 #[.agg #[ab k,ab u,af s,ae a len pc]] w λe w'=>∃b c l,e=.returned (.agg #[ab k,ab u,af s,ae b len c])/\Hid (gQ n p w w' b c l):=by
 go_enter func56,ntmps56;go_wp2_with fail;go_region_held3 (λw'=>w'.cell? ⟨w.heap.size,0,none⟩=some (ab k)/\w'.cell? ⟨w.heap.size,1,none⟩=some (ab u)/\w'.cell? ⟨w.heap.size,2,none⟩=some (af s)/\w'.cell? ⟨w.heap.size,3,none⟩=some (ae a len pc)) (go_keep) ((first|(go_at_call 63;refine(dW s _ F).mono ?_;rintro e w1 ⟨rfl,h⟩;have f:=au (FW h);have d:=au (IF h);have o:=d.1.1;have q:=d.1.2.1;have r:=d.1.2.2.1;have t:=d.1.2.2.2;clear h)|(go_at_call 89;refine(j _ f.1).mono ?_;rintro e J ⟨b,c,l,rfl,g⟩;have i:=au (C3 f.2.2 g.1 d.2);obtain⟨B,C,D,E,G,d1,H,I⟩:=i.out;obtain⟨x,y,z,A⟩:=od f.2.1 g.1 d.1)));have m:=au (g.box f.1 f.2.2 (ab k) (ab u) (af s) (ae b len c));clear g f d i o q r t x y z A;go_wp2_with fail;exact az (v:=.agg #[ab k,ab u,af s,ae b len c]) (by simp[results,results56,go_sem,B,C,D,E]) rfl ⟨b,c,l,rfl,m⟩
theorem ip(n:Nat):PG n:=by
 induction n with
 | zero=>intro a m u k;exact k.elim
 | succ n ih=>
  intro a m u k j t;have E:=k;obtain⟨⟨G,H,D,K,J⟩,h⟩:=E;have s:=t (bI n a) (by simp[aC,bI]);have I:a.2.2.length<=8:=mB (bI n a) s;have C:a.1.2.2.size<=2048:=by have:=sD (bI n a) s;simp only[bI]at this;omega
  refine(sy n a.1.1 a.1.2.1 a.1.2.2 a.2.1.1 a.2.2.length a.2.1.2 a.2.2 u C ?_).mono ?_
  ·intro F i;refine tb n ih a.2.2 a.2.1.1 a.2.1.2 m F ?_ (by omega) (λe d=>bf n a e t d) (aD j i.size);rcases h with h|⟨b,o,g,p,h⟩
   ·exact ai h
   ·exact aj ⟨b,o,g,p,λf e d=>⟨(h f e d).1.below (i.mono j) p,(h f e d).2.below (i.mono j)⟩⟩
  ·rintro g L ⟨w,x,l,rfl,v⟩;obtain⟨i,y,z,A,B,c⟩:=v;refine⟨(a.1,(w,x),l),by rw[<-y];rfl,i,⟨⟨G,H,D,z,A⟩,?_⟩,?_,?_⟩
   ·rcases c with c|⟨b,o,g,q,r,c⟩
    ·exact ai c
    ·exact aj ⟨b,o,g,r,λf e d=>⟨(c f e d).1,(c f e d).2.1⟩⟩
   ·rcases c with c|⟨b,o,g,q,r,c⟩
    ·exact ai c
    ·exact aj ⟨b,o,g,q.1,λf e d=>(c f e d).2.2⟩
   ·simp only[aB];simp[B]
end Go.Proofs.YtmmahddlcldmiaaGreat
