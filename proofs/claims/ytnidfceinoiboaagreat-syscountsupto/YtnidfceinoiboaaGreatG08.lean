/- What is proved here: term.Copy and term.CopyAll of right terms that lie in memory: what they return is the same, and lies in new memory alone; no memory that was there is turned. No condition but those. -/
import Derived.Test.YtnidfceinoiboaaGreatG06
import Derived.Test.YtnidfceinoiboaaGreatG07
namespace Go.Proofs.YtnidfceinoiboaaGreat
open Go.RowKit
set_option maxHeartbeats 1000000
theorem dD(s:ByteArray)(w:World)(b:s.size<=2048):Calls Tryz.prog 49 #[.string s] w λe w'=>e=.returned (.string s)/\Below w.heap.size w w':=by
 go_enter Tryz.func49,Tryz.ntmps49;go_wp2_with (go_at_call 75;refine(Tryz.stringslite_Clone s w (by omega)).mono ?_;rintro e w' ⟨rfl,a⟩)
 go_ret
 exact⟨rfl,a⟩
theorem kG(a:Option Addr)(pc:Nat)(w:World):Calls Tryz.prog 71 #[.slice a 0 pc] w λe w'=>e=.returned (.slice none 0 0)/\w'=w:=by
 go_enter Tryz.func71,Tryz.ntmps71;go_wp2_with fail
 go_ret
 exact⟨rfl,rfl⟩
theorem pD(n:Nat)(p:List (Tm n))(len:Nat){w w1:World}(a:w1.ownsRow w.heap.size 30 4 (.slice (some ⟨w.heap.size,0,none⟩) len len) len (madeCells (Value.agg #[.int .i64 0,.int .i64 0,.string .empty,.slice none 0 0]).cells (len*4)).toList):sx n p len w.heap.size 0 [] w1:=by
 refine⟨rfl,?_,(λd c=>by cases c),rfl⟩;have b:(madeCells (Value.agg #[.int .i64 0,.int .i64 0,.string .empty,.slice none 0 0]).cells (len*4)).toList=fz (List.replicate len zA):=DM len;rw[b]at a;unfold lR;simpa using a
theorem wq(n:Nat)(ih:LS n)(p:List (Tm n))(len:Nat)(M:Hid (p.length=len))(r po pc:Nat)(B:Nat)(w:World)(an:0<len)(av:len<=1048576)(X:r<B)(u:∀(i:Nat)(y:Tm n),p[i]?=some y->dr w r (po+i*4) n y/\In B w n y)(N:∀y∈p,aB ⟨n,y⟩)(G:B<=w.heap.size):Calls Tryz.prog 71 #[.slice (some ⟨r,po,none⟩) len pc] w λe w'=>∃l,e=.returned (.slice (some ⟨w.heap.size,0,none⟩) len len)/\Hid (fV n p w w' (some ⟨w.heap.size,0,none⟩) len l):=by
 obtain⟨Y,I,O,P,Q⟩:=bM gA;have ar:((len:Int)==0)=false:=by simp;omega
 go_enter Tryz.func71,Tryz.ntmps71;go_wp2_with (at_make;refine jZ _ rfl _ _ 28 rfl w.heap.size 30 Y _ 4 Tryz.underlying28 I O P _ _ _ _ len rfl rfl rfl rfl (by rw[Q];omega) (by unfold maxLen;omega) (ag _) ?_;intro aa L f);have E:=ai (pD n p len L);have z:Hid (Below w.heap.size w aa):=⟨f.os,f.tape,f.output,f.size,λk J=>f.block k J (by simp)⟩;clear L f I O P Q;go_wp2_with fail;go_loopw [14] (λi wr=>∃k:Nat,k<=len/\i=.int .i64 k/\Hid (Below w.heap.size w wr/\∃l,sx n p len w.heap.size k l wr)) (λi _=>len-(intOf i).toNat)
 case atStart=>exact⟨0,by omega,rfl,z.out,[],E.out⟩
 case round=>
  obtain⟨k,J,rfl,C⟩:=hrel;obtain⟨g,l,d⟩:Hid (Below w.heap.size w wr)/\∃l,Hid (sx n p len w.heap.size k l wr):=C.out;clear C;by_cases K:k<len
  ·obtain⟨a,m⟩:∃a,p[k]?=some a:=⟨p[k]'(by rw[M.out];exact K),aA _⟩;obtain⟨o,q⟩:=u k a m;have V:=ai m;have D:=ai (N a (ay m));replace o:=o.below (g.out.mono G) X;replace q:=q.below (g.out.mono G);have W:w.heap.size<wr.heap.size:=d.out.2.1.lt.2;have H:B<=wr.heap.size:=by omega
   clear u m N E z;cases n with
   | zero=>exact o.elim
   | succ n=>
   obtain⟨ab,ad,ae,af⟩:=o
   have A:Hid (∀(b:World),Below wr.heap.size wr b->Calls Tryz.prog 45 #[.agg #[.int .i64 a.1.1,.int .i64 a.1.2.1,.string a.1.2.2,.slice a.2.1.1 a.2.2.length a.2.1.2]] b λe w'=>∃y:Tm (n+1),e=.returned (dg (n+1) y)/\Hid (Below b.heap.size b w'/\In w'.heap.size w' (n+1) y/\ch (λs=>b.heap.size<=s) (n+1) y/\aw (n+1) y (n+1) a=true)):=
    λb c=>ih a B b (q.below (c.mono H)) (au H c.size) D.out
   clear ih q D;generalize a.2.2.length=az at*;have ap:(0:Int)<=(k:Int):=by omega
   have aq:(k:Int)<(len:Int):=by omega
   have ax:r<wr.heap.size:=by omega
   go_wp2_with fail;refine(A.out _ ((ah _ _).alloc (ag _) _)).mono ?_;rintro e b ⟨y,rfl,h⟩;have j:Hid (Below wr.heap.size wr b):=((ah _ _).alloc (ag _) _).trans (h.out.1.mono (by simp));have U:=ai (d.out.step K a V.out j.out y h.out.2.1 (h.out.2.2.1.mono λs v=>by simp at v;omega) h.out.2.2.2);have t:=ai (d.out.2.1.below j.out);have S:Hid (Below w.heap.size w (iH b w.heap.size (k*4) (iv (n+1) y))):=by
    have c:=g.out.trans (j.out.mono (Nat.le_of_lt W));exact⟨c.os,c.tape,c.output,au c.size (dp (aZ _ _ _ _).symm),λs v=>(aO (by omega) _ _ _ _).trans (c.block s v)⟩
   obtain⟨x,R⟩:∃x,(l.map (λa=>(⟨n+1,a⟩:An))++List.replicate (len-k) zA)[k]?=some x:=⟨_,aA (by simp[d.out.1];omega)⟩;obtain⟨aj,ak,al,am⟩:=t.out.cells k x R;have ao:=λZ=>t.out.free Z;have F:dg (n+1) y=.agg #[.int .i64 y.1.1,.int .i64 y.1.2.1,.string y.1.2.2,.slice y.2.1.1 y.2.2.length y.2.1.2]:=rfl;rw[F];clear A d g h j t ab ad ae af R F;go_wp2_with fail;go_roundw
   case rel=>exact⟨k+1,by omega,by go_num,S.out,l++ [y],U.out⟩
   case measure=>simp[intOf];omega
  ·have T:=ai (d.out.done M.out (by omega) g.out (by unfold maxLen;omega));clear d u;go_wp2_with fail
   go_ret
   exact⟨l,rfl,T.out⟩
def LR(n:Nat):Prop:=∀(p:List (Tm n))(a:Option Addr)(pc B:Nat)(w:World),(p=[]\/∃b o,a=some ⟨b,o,none⟩/\b<B/\∀(i:Nat)(y:Tm n),p[i]?=some y->dr w b (o+i*4) n y/\In B w n y)->p.length<=1048576->(∀y∈p,aB ⟨n,y⟩)->B<=w.heap.size->
 Calls Tryz.prog 71 #[.slice a p.length pc] w λe w'=>∃c d l,e=.returned (.slice c p.length d)/\Hid (fV n p w w' c d l)
theorem rj(n:Nat)(ih:LS n):LR n:=by
 intro c i pc g d a p q k;rcases a with a|⟨b,o,rfl,m,a⟩
 ·subst a;refine(kG i pc d).mono ?_;rintro e f ⟨rfl,rfl⟩;exact⟨none,0,[],rfl,ah _ _,rfl,ag _,aD _,rfl,ae rfl⟩
 ·by_cases j:c.length=0
  ·have:c=[]:=bK j;subst this;refine(kG _ pc d).mono ?_;rintro e f ⟨rfl,rfl⟩;exact⟨none,0,[],rfl,ah _ _,rfl,ag _,aD _,rfl,ae rfl⟩
  ·refine(wq n ih c c.length rfl b o pc g d (by omega) p m a q k).mono ?_;rintro e f ⟨l,rfl,h⟩;exact⟨_,_,l,rfl,h⟩
theorem C4{w w1:World}{a b:Obj}(c:Below ((w.alloc a).alloc b).drew.heap.size ((w.alloc a).alloc b).drew w1):Below w.heap.size w w1/\w.heap.size<w1.heap.size/\w.heap.size+1<w1.heap.size:=by
 have d:Below w.heap.size w ((w.alloc a).alloc b).drew:=(((ah _ _).alloc (ag _) _).alloc (by simp) _).drew;have f:=c.size;have e:((w.alloc a).alloc b).drew.heap.size=w.heap.size+2:=by simp[World.drew]
 exact⟨d.trans (c.mono d.size),by omega,by omega⟩
theorem fP{B:Nat}{w w1:World}(a:Below B w w1):∀b o,b<B->w1.frozen? ⟨b,o,none⟩=w.frozen? ⟨b,o,none⟩:=λb o c=>a.frozen (p:=⟨b,o,none⟩) c
theorem EL{w w':World}{v0 v1 v2 v3 e f g h:Value}{t i:TypeId}(d:Below ((w.alloc (.cells #[v0,v1,v2,v3] t)).alloc (.cells #[e,f,g,h] i)).drew.heap.size ((w.alloc (.cells #[v0,v1,v2,v3] t)).alloc (.cells #[e,f,g,h] i)).drew w'):(w'.cell? ⟨w.heap.size,0,none⟩=some v0/\w'.cell? ⟨w.heap.size,1,none⟩=some v1/\w'.cell? ⟨w.heap.size,2,none⟩=some v2/\w'.cell? ⟨w.heap.size,3,none⟩=some v3)/\ w'.cell? ⟨w.heap.size+1,0,none⟩=some e/\w'.cell? ⟨w.heap.size+1,1,none⟩=some f/\w'.cell? ⟨w.heap.size+1,2,none⟩=some g/\w'.cell? ⟨w.heap.size+1,3,none⟩=some h/\ w'.frozen? ⟨w.heap.size+1,0,none⟩=false/\w'.frozen? ⟨w.heap.size+1,1,none⟩=false/\w'.frozen? ⟨w.heap.size+1,2,none⟩=false/\w'.frozen? ⟨w.heap.size+1,3,none⟩=false:=by
 have a:=λo=>d.cell (p:=⟨w.heap.size,o,none⟩) (by simp[World.drew];try omega);have b:=λo=>d.cell (p:=⟨w.heap.size+1,o,none⟩) (by simp[World.drew];try omega);have c:=λo=>d.frozen (p:=⟨w.heap.size+1,o,none⟩) (by simp[World.drew];try omega);exact⟨⟨(a 0).trans (by simp[go_sem]),(a 1).trans (by simp[go_sem]),(a 2).trans (by simp[go_sem]),(a 3).trans (by simp[go_sem])⟩,(b 0).trans (by simp[go_sem]),(b 1).trans (by simp[go_sem]),(b 2).trans (by simp[go_sem]),(b 3).trans (by simp[go_sem]),(c 0).trans (by simp[go_sem]),(c 1).trans (by simp[go_sem]),(c 2).trans (by simp[go_sem]),(c 3).trans (by simp[go_sem])⟩
theorem AA{w1 w2:World}{q:Nat}{e f g h:Value}(a:q<w1.heap.size)(d:Below w1.heap.size w1 w2)(k:w1.cell? ⟨q,0,none⟩=some e/\w1.cell? ⟨q,1,none⟩=some f/\w1.cell? ⟨q,2,none⟩=some g/\w1.cell? ⟨q,3,none⟩=some h/\ w1.frozen? ⟨q,0,none⟩=false/\w1.frozen? ⟨q,1,none⟩=false/\w1.frozen? ⟨q,2,none⟩=false/\w1.frozen? ⟨q,3,none⟩=false):w2.cell? ⟨q,0,none⟩=some e/\w2.cell? ⟨q,1,none⟩=some f/\w2.cell? ⟨q,2,none⟩=some g/\w2.cell? ⟨q,3,none⟩=some h/\ w2.frozen? ⟨q,0,none⟩=false/\w2.frozen? ⟨q,1,none⟩=false/\w2.frozen? ⟨q,2,none⟩=false/\w2.frozen? ⟨q,3,none⟩=false:=by
 obtain⟨i,j,l,m,n,d1,o,p⟩:=k;have b:=aj d;have c:=fP d;exact⟨(b _ _ a).trans i,(b _ _ a).trans j,(b _ _ a).trans l,(b _ _ a).trans m,(c _ _ a).trans n,(c _ _ a).trans d1,(c _ _ a).trans o,(c _ _ a).trans p⟩
theorem fV.box{n:Nat}{p:List (Tm n)}{w w1 w2:World}{a:Option Addr}{c:Nat}{l:List (Tm n)}(r:fV n p w1 w2 a c l)(h:Below w.heap.size w w1)(f:w.heap.size+1<w1.heap.size)(v0 v1 v2 v3:Value):fV n p w (cP w2 (w.heap.size+1) 0 v0 v1 v2 v3) a c l:=by
 obtain⟨s,t,u,v,x,d⟩:=r;have e:=h.trans (s.mono h.size);have F:=h.size;refine⟨⟨e.os,e.tape,e.output,au e.size (dp (aZ _ _ _ _).symm),λj f=>(aO (by omega) _ _ _ _).trans (e.block j f)⟩,t,u,v,x,?_⟩;rcases d with d|⟨b,o,q,i,y,d⟩
 ·exact ae d
 ·refine af ⟨b,o,q,⟨by omega,i.2.1,λB=>?_,i.2.2.2⟩,by rw[aZ];exact y,λA E z=>?_⟩
  ·have k:=i.2.2.1 B;unfold World.frozen? at k ⊢;rw[aO (w:=w2) (g:=w.heap.size+1) (b:=b) (o:=0) (by omega) v0 v1 v2 v3];exact k
  obtain⟨C,D,m⟩:=d A E z;refine⟨C.block (aO (by omega) _ _ _ _),?_,m.mono λj f=>by omega⟩;rw[aZ];exact In.off (λj f=>aO (by omega) _ _ _ _) m D
theorem lp(x:Nd)(a:bT x=true):x.2.2.1<=8:=by
 by_cases b:x.1.1=4
 ·simp[bT,b]at a;omega
 ·have:=(eh x a).2.2.2.2 b;omega
theorem qD(x:Nd)(a:bT x=true):x.1.2.2.size<=8:=by
 by_cases c:x.1.1=2
 ·simp[bT,c,cg,kK]at a;omega
 ·have b:=(eh x a).1 c;have e:x.1.2.2.data.toList=[]:=by rw[du]at b;exact b
  have:x.1.2.2.size=0:=by
   have d:x.1.2.2.size=x.1.2.2.data.toList.length:=by rw[gG];rfl
   rw[d,e];rfl
  omega
theorem qy(n:Nat)(k u:Int)(s:ByteArray)(a:Option Addr)(len pc:Nat)(p:List (Tm n))(w:World)(F:s.size<=2048)(j:Hid (∀w1,Below w.heap.size w w1->Calls Tryz.prog 71 #[.slice a len pc] w1 λe w'=>∃b c l,e=.returned (.slice b len c)/\Hid (fV n p w1 w' b c l))):Calls Tryz.prog 45 #[.agg #[.int .i64 k,.int .i64 u,.string s,.slice a len pc]] w λe w'=>∃b c l,e=.returned (.agg #[.int .i64 k,.int .i64 u,.string s,.slice b len c])/\Hid (fV n p w w' b c l):=by
 go_enter Tryz.func45,Tryz.ntmps45;go_wp2_with fail;go_region_held3 (λw'=>w'.cell? ⟨w.heap.size,0,none⟩=some (.int .i64 k)/\w'.cell? ⟨w.heap.size,1,none⟩=some (.int .i64 u)/\w'.cell? ⟨w.heap.size,2,none⟩=some (.string s)/\w'.cell? ⟨w.heap.size,3,none⟩=some (.slice a len pc)) (go_keep) ((first|(go_at_call 49;refine(dD s _ F).mono ?_;rintro e w1 ⟨rfl,h⟩;have f:=ai (C4 h);have d:=ai (EL h);have o:=d.out.1.1;have q:=d.out.1.2.1;have r:=d.out.1.2.2.1;have t:=d.out.1.2.2.2;clear h)|(go_at_call 71;refine(j.out _ f.out.1).mono ?_;rintro e J ⟨b,c,l,rfl,g⟩;have i:=ai (AA f.out.2.2 g.out.1 d.out.2);obtain⟨B,C,D,E,G,d1,H,I⟩:=i.out;obtain⟨x,y,z,A⟩:=mH f.out.2.1 g.out.1 d.out.1)));have m:=ai (g.out.box f.out.1 f.out.2.2 (.int .i64 k) (.int .i64 u) (.string s) (.slice b len c));clear g f d i o q r t x y z A;go_wp2_with fail;exact ao (v:=.agg #[.int .i64 k,.int .i64 u,.string s,.slice b len c]) (by simp[results,Tryz.results45,go_sem,B,C,D,E]) rfl ⟨b,c,l,rfl,m.out⟩
theorem gz(n:Nat):LS n:=by
 induction n with
 | zero=>intro a m u k;exact k.elim
 | succ n ih=>
  intro a m u k j t;have E:=k;obtain⟨⟨G,H,D,K,J⟩,h⟩:=E;have s:=t (bm n a) (by simp[aq,bm]);have I:a.2.2.length<=8:=lp (bm n a) s;have C:a.1.2.2.size<=2048:=by have:=qD (bm n a) s;simp only[bm]at this;omega
  refine(qy n a.1.1 a.1.2.1 a.1.2.2 a.2.1.1 a.2.2.length a.2.1.2 a.2.2 u C ?_).mono ?_
  ·intro F i;refine rj n ih a.2.2 a.2.1.1 a.2.1.2 m F ?_ (by omega) (λe d=>aU n a e t d) (au j i.size);rcases h with h|⟨b,o,g,p,h⟩
   ·exact ae h
   ·exact af ⟨b,o,g,p,λf e d=>⟨(h f e d).1.below (i.mono j) p,(h f e d).2.below (i.mono j)⟩⟩
  ·rintro g L ⟨w,x,l,rfl,v⟩;obtain⟨i,y,z,A,B,c⟩:=v.out;refine⟨(a.1,(w,x),l),by rw[<-y];rfl,i,⟨⟨G,H,D,z,A⟩,?_⟩,?_,?_⟩
   ·rcases c with c|⟨b,o,g,q,r,c⟩
    ·exact ae c
    ·exact af ⟨b,o,g,r,λf e d=>⟨(c f e d).1,(c f e d).2.1⟩⟩
   ·rcases c with c|⟨b,o,g,q,r,c⟩
    ·exact ae c
    ·exact af ⟨b,o,g,q.1,λf e d=>(c f e d).2.2⟩
   ·simp only[aw];simp[B]
end Go.Proofs.YtnidfceinoiboaaGreat
