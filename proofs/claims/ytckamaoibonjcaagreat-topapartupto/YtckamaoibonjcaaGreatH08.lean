/- What is proved here: term.Copy and term.CopyAll of right terms that lie in memory: what they return is the same, and lies in new memory alone; no memory that was there is turned. No condition but those. -/
import Derived.Test.YtckamaoibonjcaaGreatH06
import Derived.Test.YtckamaoibonjcaaGreatH07
namespace Go.Proofs.YtckamaoibonjcaaGreat
open Go.RowKit
set_option maxHeartbeats 1000000
theorem dF(s:ByteArray)(w:World)(b:s.size<=2048):ak 41 #[ae s] w λe w'=>e=.returned (ae s)/\ai w w':=by
 go_enter Tryz.func41,Tryz.ntmps41;go_wp2_with (go_at_call 67;refine(Tryz.stringslite_Clone s w (by omega)).mono ?_;rintro e w' ⟨rfl,a⟩)
 go_ret
 exact⟨rfl,a⟩
theorem kP(a:Option Addr)(pc:Nat)(w:World):ak 82 #[.slice a 0 pc] w λe w'=>e=.returned (.slice none 0 0)/\w'=w:=by
 go_enter Tryz.func82,Tryz.ntmps82;go_wp2_with fail
 go_ret
 exact⟨rfl,rfl⟩
theorem qr(n:Nat)(p:List (Tm n))(len:Nat){w w1:World}(a:w1.ownsRow w.heap.size 30 4 (.slice (some ⟨w.heap.size,0,none⟩) len len) len (madeCells (Value.agg #[ab 0,ab 0,ae .empty,.slice none 0 0]).cells (len*4)).toList):tC n p len w.heap.size 0 [] w1:=by
 refine⟨rfl,?_,(λd c=>by cases c),rfl⟩;have b:(madeCells (Value.agg #[ab 0,ab 0,ae .empty,.slice none 0 0]).cells (len*4)).toList=fL (List.replicate len zA):=FK len;rw[b]at a;unfold mu;simpa using a
theorem xL(n:Nat)(ih:Oe n)(p:List (Tm n))(len:Nat)(M:Hid (p.length=len))(r po pc:Nat)(B:Nat)(w:World)(ar:0<len)(aB:len<=1048576)(X:r<B)(u:∀(i:Nat)(y:Tm n),p[i]?=some y->dr w r (po+i*4) n y/\In B w n y)(N:∀y∈p,aA ⟨n,y⟩)(G:B<=w.heap.size):ak 82 #[.slice (some ⟨r,po,none⟩) len pc] w λe w'=>∃l,e=.returned (.slice (some ⟨w.heap.size,0,none⟩) len len)/\Hid (gA n p w w' (some ⟨w.heap.size,0,none⟩) len l):=by
 obtain⟨Y,I,O,P,Q⟩:=bQ fY;have az:((len:Int)==0)=false:=by simp;omega
 go_enter Tryz.func82,Tryz.ntmps82;go_wp2_with (at_make;refine km _ rfl _ _ 28 rfl w.heap.size 30 Y _ 4 Tryz.underlying28 I O P _ _ _ _ len rfl rfl rfl rfl (by rw[Q];omega) (by unfold maxLen;omega) (aj _) ?_;intro aa L f);have E:=ao (qr n p len L);have z:Hid (ai w aa):=⟨f.os,f.tape,f.output,f.size,λk J=>f.block k J (by simp)⟩;clear L f I O P Q;go_wp2_with fail;go_loopw [14] (λi wr=>∃k:Nat,k<=len/\i=ab k/\Hid (ai w wr/\∃l,tC n p len w.heap.size k l wr)) (λi _=>len-(intOf i).toNat)
 case atStart=>exact⟨0,by omega,rfl,z.out,[],E.out⟩
 case round=>
  obtain⟨k,J,rfl,C⟩:=hrel;obtain⟨g,l,d⟩:Hid (ai w wr)/\∃l,Hid (tC n p len w.heap.size k l wr):=C.out;clear C;by_cases K:k<len
  ·obtain⟨a,m⟩:∃a,p[k]?=some a:=⟨p[k]'(by rw[M.out];exact K),aE _⟩;obtain⟨o,q⟩:=u k a m;have V:=ao m;have D:=ao (N a (aG m));replace o:=o.below (g.out.mono G) X;replace q:=q.below (g.out.mono G);have W:w.heap.size<wr.heap.size:=d.out.2.1.lt.2;have H:B<=wr.heap.size:=by omega
   clear u m N E z;cases n with
   | zero=>exact o.elim
   | succ n=>
   obtain⟨ad,af,ag,ah⟩:=o
   have A:Hid (∀(b:World),ai wr b->ak 54 #[.agg #[ab a.1.1,ab a.1.2.1,ae a.1.2.2,.slice a.2.1.1 a.2.2.length a.2.1.2]] b λe w'=>∃y:Tm (n+1),e=.returned (df (n+1) y)/\Hid (ai b w'/\In w'.heap.size w' (n+1) y/\bZ (λs=>b.heap.size<=s) (n+1) y/\aw (n+1) y (n+1) a=true)):=
    λb c=>ih a B b (q.below (c.mono H)) (ax H c.size) D.out
   clear ih q D;generalize a.2.2.length=aD at*;have av:(0:Int)<=(k:Int):=by omega
   have ay:(k:Int)<(len:Int):=by omega
   have aC:r<wr.heap.size:=by omega
   go_wp2_with fail;refine(A.out _ ((am _ _).alloc (aj _) _)).mono ?_;rintro e b ⟨y,rfl,h⟩;have j:Hid (ai wr b):=((am _ _).alloc (aj _) _).trans (h.out.1.mono (by simp));have U:=ao (d.out.step K a V.out j.out y h.out.2.1 (h.out.2.2.1.mono λs v=>by simp at v;omega) h.out.2.2.2);have t:=ao (d.out.2.1.below j.out);have S:Hid (ai w (iX b w.heap.size (k*4) (fX (n+1) y))):=by
    have c:=g.out.trans (j.out.mono (Nat.le_of_lt W));exact⟨c.os,c.tape,c.output,ax c.size (dm (bj _ _ _ _).symm),λs v=>(aT (by omega) _ _ _ _).trans (c.block s v)⟩
   obtain⟨x,R⟩:∃x,(l.map (λa=>(⟨n+1,a⟩:An))++List.replicate (len-k) zA)[k]?=some x:=⟨_,aE (by simp[d.out.1];omega)⟩;obtain⟨al,an,ap,aq⟩:=t.out.cells k x R;have au:=λZ=>t.out.free Z;have F:df (n+1) y=.agg #[ab y.1.1,ab y.1.2.1,ae y.1.2.2,.slice y.2.1.1 y.2.2.length y.2.1.2]:=rfl;rw[F];clear A d g h j t ad af ag ah R F;go_wp2_with fail;go_roundw
   case rel=>exact⟨k+1,by omega,by go_num,S.out,l++ [y],U.out⟩
   case measure=>simp[intOf];omega
  ·have T:=ao (d.out.done M.out (by omega) g.out (by unfold maxLen;omega));clear d u;go_wp2_with fail
   go_ret
   exact⟨l,rfl,T.out⟩
def Od(n:Nat):Prop:=∀(p:List (Tm n))(a:Option Addr)(pc B:Nat)(w:World),(p=[]\/∃b o,a=some ⟨b,o,none⟩/\b<B/\∀(i:Nat)(y:Tm n),p[i]?=some y->dr w b (o+i*4) n y/\In B w n y)->p.length<=1048576->(∀y∈p,aA ⟨n,y⟩)->B<=w.heap.size->
 ak 82 #[.slice a p.length pc] w λe w'=>∃c d l,e=.returned (.slice c p.length d)/\Hid (gA n p w w' c d l)
theorem r9(n:Nat)(ih:Oe n):Od n:=by
 intro c i pc g d a p q k;rcases a with a|⟨b,o,rfl,m,a⟩
 ·subst a;refine(kP i pc d).mono ?_;rintro e f ⟨rfl,rfl⟩;exact⟨none,0,[],rfl,am _ _,rfl,aj _,aF _,rfl,ag rfl⟩
 ·by_cases j:c.length=0
  ·have:c=[]:=bB j;subst this;refine(kP _ pc d).mono ?_;rintro e f ⟨rfl,rfl⟩;exact⟨none,0,[],rfl,am _ _,rfl,aj _,aF _,rfl,ag rfl⟩
  ·refine(xL n ih c c.length rfl b o pc g d (by omega) p m a q k).mono ?_;rintro e f ⟨l,rfl,h⟩;exact⟨_,_,l,rfl,h⟩
theorem EO{w w1:World}{a b:Obj}(c:Below ((w.alloc a).alloc b).drew.heap.size ((w.alloc a).alloc b).drew w1):ai w w1/\w.heap.size<w1.heap.size/\w.heap.size+1<w1.heap.size:=by
 have d:ai w ((w.alloc a).alloc b).drew:=(((am _ _).alloc (aj _) _).alloc (by simp) _).drew;have f:=c.size;have e:((w.alloc a).alloc b).drew.heap.size=w.heap.size+2:=by simp[World.drew]
 exact⟨d.trans (c.mono d.size),by omega,by omega⟩
theorem gt{B:Nat}{w w1:World}(a:Below B w w1):∀b o,b<B->w1.frozen? ⟨b,o,none⟩=w.frozen? ⟨b,o,none⟩:=λb o c=>a.frozen (p:=⟨b,o,none⟩) c
theorem GV{w w':World}{v0 v1 v2 v3 e f g h:Value}{t i:TypeId}(d:Below ((w.alloc (.cells #[v0,v1,v2,v3] t)).alloc (.cells #[e,f,g,h] i)).drew.heap.size ((w.alloc (.cells #[v0,v1,v2,v3] t)).alloc (.cells #[e,f,g,h] i)).drew w'):(w'.cell? ⟨w.heap.size,0,none⟩=some v0/\w'.cell? ⟨w.heap.size,1,none⟩=some v1/\w'.cell? ⟨w.heap.size,2,none⟩=some v2/\w'.cell? ⟨w.heap.size,3,none⟩=some v3)/\ w'.cell? ⟨w.heap.size+1,0,none⟩=some e/\w'.cell? ⟨w.heap.size+1,1,none⟩=some f/\w'.cell? ⟨w.heap.size+1,2,none⟩=some g/\w'.cell? ⟨w.heap.size+1,3,none⟩=some h/\ w'.frozen? ⟨w.heap.size+1,0,none⟩=false/\w'.frozen? ⟨w.heap.size+1,1,none⟩=false/\w'.frozen? ⟨w.heap.size+1,2,none⟩=false/\w'.frozen? ⟨w.heap.size+1,3,none⟩=false:=by
 have a:=λo=>d.cell (p:=⟨w.heap.size,o,none⟩) (by simp[World.drew];try omega);have b:=λo=>d.cell (p:=⟨w.heap.size+1,o,none⟩) (by simp[World.drew];try omega);have c:=λo=>d.frozen (p:=⟨w.heap.size+1,o,none⟩) (by simp[World.drew];try omega);exact⟨⟨(a 0).trans (by simp[go_sem]),(a 1).trans (by simp[go_sem]),(a 2).trans (by simp[go_sem]),(a 3).trans (by simp[go_sem])⟩,(b 0).trans (by simp[go_sem]),(b 1).trans (by simp[go_sem]),(b 2).trans (by simp[go_sem]),(b 3).trans (by simp[go_sem]),(c 0).trans (by simp[go_sem]),(c 1).trans (by simp[go_sem]),(c 2).trans (by simp[go_sem]),(c 3).trans (by simp[go_sem])⟩
theorem B4{w1 w2:World}{q:Nat}{e f g h:Value}(a:q<w1.heap.size)(d:ai w1 w2)(k:w1.cell? ⟨q,0,none⟩=some e/\w1.cell? ⟨q,1,none⟩=some f/\w1.cell? ⟨q,2,none⟩=some g/\w1.cell? ⟨q,3,none⟩=some h/\ w1.frozen? ⟨q,0,none⟩=false/\w1.frozen? ⟨q,1,none⟩=false/\w1.frozen? ⟨q,2,none⟩=false/\w1.frozen? ⟨q,3,none⟩=false):w2.cell? ⟨q,0,none⟩=some e/\w2.cell? ⟨q,1,none⟩=some f/\w2.cell? ⟨q,2,none⟩=some g/\w2.cell? ⟨q,3,none⟩=some h/\ w2.frozen? ⟨q,0,none⟩=false/\w2.frozen? ⟨q,1,none⟩=false/\w2.frozen? ⟨q,2,none⟩=false/\w2.frozen? ⟨q,3,none⟩=false:=by
 obtain⟨i,j,l,m,n,d1,o,p⟩:=k;have b:=ap d;have c:=gt d;exact⟨(b _ _ a).trans i,(b _ _ a).trans j,(b _ _ a).trans l,(b _ _ a).trans m,(c _ _ a).trans n,(c _ _ a).trans d1,(c _ _ a).trans o,(c _ _ a).trans p⟩
theorem gA.box{n:Nat}{p:List (Tm n)}{w w1 w2:World}{a:Option Addr}{c:Nat}{l:List (Tm n)}(r:gA n p w1 w2 a c l)(h:ai w w1)(f:w.heap.size+1<w1.heap.size)(v0 v1 v2 v3:Value):gA n p w (cG w2 (w.heap.size+1) 0 v0 v1 v2 v3) a c l:=by
 obtain⟨s,t,u,v,x,d⟩:=r;have e:=h.trans (s.mono h.size);have F:=h.size;refine⟨⟨e.os,e.tape,e.output,ax e.size (dm (bj _ _ _ _).symm),λj f=>(aT (by omega) _ _ _ _).trans (e.block j f)⟩,t,u,v,x,?_⟩;rcases d with d|⟨b,o,q,i,y,d⟩
 ·exact ag d
 ·refine ah ⟨b,o,q,⟨by omega,i.2.1,λB=>?_,i.2.2.2⟩,by rw[bj];exact y,λA E z=>?_⟩
  ·have k:=i.2.2.1 B;unfold World.frozen? at k ⊢;rw[aT (w:=w2) (g:=w.heap.size+1) (b:=b) (o:=0) (by omega) v0 v1 v2 v3];exact k
  obtain⟨C,D,m⟩:=d A E z;refine⟨C.block (aT (by omega) _ _ _ _),?_,m.mono λj f=>by omega⟩;rw[bj];exact In.off (λj f=>aT (by omega) _ _ _ _) m D
theorem lH(x:Nd)(a:cq x=true):x.2.2.1<=8:=by
 by_cases b:x.1.1=4
 ·simp[cq,b]at a;omega
 ·have:=(eq x a).2.2.2.2 b;omega
theorem rC(x:Nd)(a:cq x=true):x.1.2.2.size<=8:=by
 by_cases c:x.1.1=2
 ·simp[cq,c,dE,pY]at a;omega
 ·have b:=(eq x a).1 c;have e:x.1.2.2.data.toList=[]:=by rw[b8]at b;exact b
  have:x.1.2.2.size=0:=by
   have d:x.1.2.2.size=x.1.2.2.data.toList.length:=by rw[gZ];rfl
   rw[d,e];rfl
  omega
theorem rz(n:Nat)(k g:Int)(s:ByteArray)(a:Option Addr)(len pc:Nat)(p:List (Tm n))(w:World)(F:s.size<=2048)(m:Hid (∀w1,ai w w1->ak 82 #[.slice a len pc] w1 λe w'=>∃b c l,e=.returned (.slice b len c)/\Hid (gA n p w1 w' b c l))):ak 54 #[.agg #[ab k,ab g,ae s,.slice a len pc]] w λe w'=>∃b c l,e=.returned (.agg #[ab k,ab g,ae s,.slice b len c])/\Hid (gA n p w w' b c l):=by
 go_enter Tryz.func54,Tryz.ntmps54;go_wp2_with fail;go_region_held3 (λw'=>w'.cell? ⟨w.heap.size,0,none⟩=some (ab k)/\w'.cell? ⟨w.heap.size,1,none⟩=some (ab g)/\w'.cell? ⟨w.heap.size,2,none⟩=some (ae s)/\w'.cell? ⟨w.heap.size,3,none⟩=some (.slice a len pc)) (go_keep) ((first|(go_at_call 41;refine(dF s _ F).mono ?_;rintro e w1 ⟨rfl,i⟩;have f:=ao (EO i);have d:=ao (GV i);have q:=d.out.1.1;have r:=d.out.1.2.1;have t:=d.out.1.2.2.1;have u:=d.out.1.2.2.2;clear i)|(go_at_call 82;refine(m.out _ f.out.1).mono ?_;rintro e J ⟨b,c,l,rfl,h⟩;have j:=ao (B4 f.out.2.2 h.out.1 d.out.2);obtain⟨B,C,D,E,G,d1,H,I⟩:=j.out;obtain⟨x,y,z,A⟩:=nt f.out.2.1 h.out.1 d.out.1)));have o:=ao (h.out.box f.out.1 f.out.2.2 (ab k) (ab g) (ae s) (.slice b len c));clear h f d j q r t u x y z A;go_wp2_with fail;exact ar (v:=.agg #[ab k,ab g,ae s,.slice b len c]) (by simp[results,Tryz.results54,go_sem,B,C,D,E]) rfl ⟨b,c,l,rfl,o.out⟩
theorem gS(n:Nat):Oe n:=by
 induction n with
 | zero=>intro a m u k;exact k.elim
 | succ n ih=>
  intro a m u k j t;have E:=k;obtain⟨⟨G,H,D,K,J⟩,h⟩:=E;have s:=t (bu n a) (by simp[av,bu]);have I:a.2.2.length<=8:=lH (bu n a) s;have C:a.1.2.2.size<=2048:=by have:=rC (bu n a) s;simp only[bu]at this;omega
  refine(rz n a.1.1 a.1.2.1 a.1.2.2 a.2.1.1 a.2.2.length a.2.1.2 a.2.2 u C ?_).mono ?_
  ·intro F i;refine r9 n ih a.2.2 a.2.1.1 a.2.1.2 m F ?_ (by omega) (λe d=>aR n a e t d) (ax j i.size);rcases h with h|⟨b,o,g,p,h⟩
   ·exact ag h
   ·exact ah ⟨b,o,g,p,λf e d=>⟨(h f e d).1.below (i.mono j) p,(h f e d).2.below (i.mono j)⟩⟩
  ·rintro g L ⟨w,x,l,rfl,v⟩;obtain⟨i,y,z,A,B,c⟩:=v.out;refine⟨(a.1,(w,x),l),by rw[<-y];rfl,i,⟨⟨G,H,D,z,A⟩,?_⟩,?_,?_⟩
   ·rcases c with c|⟨b,o,g,q,r,c⟩
    ·exact ag c
    ·exact ah ⟨b,o,g,r,λf e d=>⟨(c f e d).1,(c f e d).2.1⟩⟩
   ·rcases c with c|⟨b,o,g,q,r,c⟩
    ·exact ag c
    ·exact ah ⟨b,o,g,q.1,λf e d=>(c f e d).2.2⟩
   ·simp only[aw];simp[B]
end Go.Proofs.YtckamaoibonjcaaGreat
