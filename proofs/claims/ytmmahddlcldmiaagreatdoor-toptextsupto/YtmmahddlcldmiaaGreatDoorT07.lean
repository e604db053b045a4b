/- What is proved here: term.Copy and term.CopyAll of right terms that lie in memory: what they return is the same, and lies in new memory alone; no memory that was there is turned. No condition but those. -/
import Derived.Test.YtmmahddlcldmiaaGreatDoorT05
import Derived.Test.YtmmahddlcldmiaaGreatDoorT06
namespace Go.Proofs.YtmmahddlcldmiaaGreatDoor
open Go.RowKit Go.Proofs.Tryz
set_option maxHeartbeats 1000000
theorem dR(s:ByteArray)(w:World)(b:s.size<=2048):am 55 #[af s] w λe w'=>e=.returned (af s)/\aj w w':=by
 go_enter func55,ntmps55;go_wp2_with (go_at_call 89;refine(Tryz.stringslite_Clone s w (by omega)).mono ?_;rintro e w' ⟨rfl,a⟩)
 go_ret
 exact⟨rfl,a⟩
theorem lC(a:Option Addr)(pc:Nat)(w:World):am 56 #[ae a 0 pc] w λe w'=>e=.returned (ae none 0 0)/\w'=w:=by
 go_enter func56,ntmps56;go_wp2_with fail
 go_ret
 exact⟨rfl,rfl⟩
theorem qV(n:Nat)(p:List (Tm n))(len:Nat){w w1:World}(a:w1.ownsRow w.heap.size 28 4 (ae (some ⟨w.heap.size,0,none⟩) len len) len (madeCells (Value.agg #[ab 0,ab 0,af .empty,ae none 0 0]).cells (len*4)).toList):uq n p len w.heap.size 0 [] w1:=by
 refine⟨rfl,?_,(λd c=>by cases c),rfl⟩;have b:(madeCells (Value.agg #[ab 0,ab 0,af .empty,ae none 0 0]).cells (len*4)).toList=fT (List.replicate len zA):=G1 len;rw[b]at a;unfold nb;simpa using a
theorem yX(n:Nat)(ih:PW n)(p:List (Tm n))(len:Nat)(M:Hid (p.length=len))(r po pc:Nat)(B:Nat)(w:World)(au:0<len)(aB:len<=1048576)(X:r<B)(u:∀(i:Nat)(y:Tm n),p[i]?=some y->dB w r (po+i*4) n y/\In B w n y)(N:∀y∈p,aD ⟨n,y⟩)(G:B<=w.heap.size):am 56 #[ae (some ⟨r,po,none⟩) len pc] w λe w'=>∃l,e=.returned (ae (some ⟨w.heap.size,0,none⟩) len len)/\Hid (gJ n p w w' (some ⟨w.heap.size,0,none⟩) len l):=by
 obtain⟨Y,I,O,P,Q⟩:=bP gh;have aA:((len:Int)==0)=false:=by simp;omega
 go_enter func56,ntmps56;go_wp2_with (at_make;refine kO _ rfl _ _ 26 rfl w.heap.size 28 Y _ 4 underlying26 I O P _ _ _ _ len rfl rfl rfl rfl (by rw[Q];omega) (by unfold maxLen;omega) (ak _) ?_;intro aa L f);have E:=aq (qV n p len L);have z:Hid (aj w aa):=⟨f.os,f.tape,f.output,f.size,λk J=>f.block k J (by simp)⟩;clear L f I O P Q;go_wp2_with fail;go_loopw [14] (λi wr=>∃k:Nat,k<=len/\i=ab k/\Hid (aj w wr/\∃l,uq n p len w.heap.size k l wr)) (λi _=>len-(intOf i).toNat)
 case atStart=>exact⟨0,by omega,rfl,z,[],E⟩
 case round=>
  obtain⟨k,J,rfl,C⟩:=hrel;obtain⟨g,l,d⟩:Hid (aj w wr)/\∃l,Hid (uq n p len w.heap.size k l wr):=C.out;clear C;by_cases K:k<len
  ·obtain⟨a,m⟩:∃a,p[k]?=some a:=⟨p[k]'(by rw[M.out];exact K),aG _⟩;obtain⟨o,q⟩:=u k a m;have V:=aq m;have D:=aq (N a (aH m));replace o:=o.below (g.mono G) X;replace q:=q.below (g.mono G);have W:w.heap.size<wr.heap.size:=d.2.1.lt.2;have H:B<=wr.heap.size:=by omega
   clear u m N E z;cases n with
   | zero=>exact o.elim
   | succ n=>
   obtain⟨ad,ag,ah,ai⟩:=o
   have A:Hid (∀(b:World),aj wr b->am 24 #[.agg #[ab a.1.1,ab a.1.2.1,af a.1.2.2,ae a.2.1.1 a.2.2.length a.2.1.2]] b λe w'=>∃y:Tm (n+1),e=.returned (df (n+1) y)/\Hid (aj b w'/\In w'.heap.size w' (n+1) y/\cd (λs=>b.heap.size<=s) (n+1) y/\ay (n+1) y (n+1) a=true)):=
    λb c=>ih a B b (q.below (c.mono H)) (az H c.size) D
   clear ih q D;generalize a.2.2.length=aE at*;have aw:(0:Int)<=(k:Int):=by omega
   have ax:(k:Int)<(len:Int):=by omega
   have aC:r<wr.heap.size:=by omega
   go_wp2_with fail;refine(A _ ((ap _ _).alloc (ak _) _)).mono ?_;rintro e b ⟨y,rfl,h⟩;have j:Hid (aj wr b):=((ap _ _).alloc (ak _) _).trans (h.1.mono (by simp));have U:=aq (d.step K a V j y h.2.1 (h.2.2.1.mono λs v=>by simp at v;omega) h.2.2.2);have t:=aq (d.2.1.below j);have S:Hid (aj w (jv b w.heap.size (k*4) (gg (n+1) y))):=by
    have c:=g.trans (j.mono (Nat.le_of_lt W));exact⟨c.os,c.tape,c.output,az c.size (dz (bq _ _ _ _).symm),λs v=>(aW (by omega) _ _ _ _).trans (c.block s v)⟩
   obtain⟨x,R⟩:∃x,(l.map (λa=>(⟨n+1,a⟩:An))++List.replicate (len-k) zA)[k]?=some x:=⟨_,aG (by simp[d.out.1];omega)⟩;obtain⟨al,an,ao,ar⟩:=t.out.cells k x R;have av:=λZ=>t.free Z;have F:df (n+1) y=.agg #[ab y.1.1,ab y.1.2.1,af y.1.2.2,ae y.2.1.1 y.2.2.length y.2.1.2]:=rfl;rw[F];clear A d g h j t ad ag ah ai R F;go_wp2_with fail;go_roundw
   case rel=>exact⟨k+1,by omega,by go_num,S,l++ [y],U⟩
   case measure=>simp[intOf];omega
  ·have T:=aq (d.done M (by omega) g (by unfold maxLen;omega));clear d u;go_wp2_with fail
   go_ret
   exact⟨l,rfl,T⟩
def PV(n:Nat):Prop:=∀(p:List (Tm n))(a:Option Addr)(pc B:Nat)(w:World),(p=[]\/∃b o,a=some ⟨b,o,none⟩/\b<B/\∀(i:Nat)(y:Tm n),p[i]?=some y->dB w b (o+i*4) n y/\In B w n y)->p.length<=1048576->(∀y∈p,aD ⟨n,y⟩)->B<=w.heap.size->
 am 56 #[ae a p.length pc] w λe w'=>∃c d l,e=.returned (ae c p.length d)/\Hid (gJ n p w w' c d l)
theorem sW(n:Nat)(ih:PW n):PV n:=by
 intro c i pc g d a p q k;rcases a with a|⟨b,o,rfl,m,a⟩
 ·subst a;refine(lC i pc d).mono ?_;rintro e f ⟨rfl,rfl⟩;exact⟨none,0,[],rfl,ap _ _,rfl,ak _,aI _,rfl,ah rfl⟩
 ·by_cases j:c.length=0
  ·have:c=[]:=bF j;subst this;refine(lC _ pc d).mono ?_;rintro e f ⟨rfl,rfl⟩;exact⟨none,0,[],rfl,ap _ _,rfl,ak _,aI _,rfl,ah rfl⟩
  ·refine(yX n ih c c.length rfl b o pc g d (by omega) p m a q k).mono ?_;rintro e f ⟨l,rfl,h⟩;exact⟨_,_,l,rfl,h⟩
theorem F4{w w1:World}{a b:Obj}(c:Below ((w.alloc a).alloc b).drew.heap.size ((w.alloc a).alloc b).drew w1):aj w w1/\w.heap.size<w1.heap.size/\w.heap.size+1<w1.heap.size:=by
 have d:aj w ((w.alloc a).alloc b).drew:=(((ap _ _).alloc (ak _) _).alloc (by simp) _).drew;have f:=c.size;have e:((w.alloc a).alloc b).drew.heap.size=w.heap.size+2:=by simp[World.drew]
 exact⟨d.trans (c.mono d.size),by omega,by omega⟩
theorem gF{B:Nat}{w w1:World}(a:Below B w w1):∀b o,b<B->w1.frozen? ⟨b,o,none⟩=w.frozen? ⟨b,o,none⟩:=λb o c=>a.frozen (p:=⟨b,o,none⟩) c
theorem IS{w w':World}{v0 v1 v2 v3 e f g h:Value}{t i:TypeId}(d:Below ((w.alloc (.cells #[v0,v1,v2,v3] t)).alloc (.cells #[e,f,g,h] i)).drew.heap.size ((w.alloc (.cells #[v0,v1,v2,v3] t)).alloc (.cells #[e,f,g,h] i)).drew w'):(w'.cell? ⟨w.heap.size,0,none⟩=some v0/\w'.cell? ⟨w.heap.size,1,none⟩=some v1/\w'.cell? ⟨w.heap.size,2,none⟩=some v2/\w'.cell? ⟨w.heap.size,3,none⟩=some v3)/\ w'.cell? ⟨w.heap.size+1,0,none⟩=some e/\w'.cell? ⟨w.heap.size+1,1,none⟩=some f/\w'.cell? ⟨w.heap.size+1,2,none⟩=some g/\w'.cell? ⟨w.heap.size+1,3,none⟩=some h/\ w'.frozen? ⟨w.heap.size+1,0,none⟩=false/\w'.frozen? ⟨w.heap.size+1,1,none⟩=false/\w'.frozen? ⟨w.heap.size+1,2,none⟩=false/\w'.frozen? ⟨w.heap.size+1,3,none⟩=false:=by
 have a:=λo=>d.cell (p:=⟨w.heap.size,o,none⟩) (by simp[World.drew];try omega);have b:=λo=>d.cell (p:=⟨w.heap.size+1,o,none⟩) (by simp[World.drew];try omega);have c:=λo=>d.frozen (p:=⟨w.heap.size+1,o,none⟩) (by simp[World.drew];try omega);exact⟨⟨(a 0).trans (by simp[go_sem]),(a 1).trans (by simp[go_sem]),(a 2).trans (by simp[go_sem]),(a 3).trans (by simp[go_sem])⟩,(b 0).trans (by simp[go_sem]),(b 1).trans (by simp[go_sem]),(b 2).trans (by simp[go_sem]),(b 3).trans (by simp[go_sem]),(c 0).trans (by simp[go_sem]),(c 1).trans (by simp[go_sem]),(c 2).trans (by simp[go_sem]),(c 3).trans (by simp[go_sem])⟩
theorem C0{w1 w2:World}{q:Nat}{e f g h:Value}(a:q<w1.heap.size)(d:aj w1 w2)(k:w1.cell? ⟨q,0,none⟩=some e/\w1.cell? ⟨q,1,none⟩=some f/\w1.cell? ⟨q,2,none⟩=some g/\w1.cell? ⟨q,3,none⟩=some h/\ w1.frozen? ⟨q,0,none⟩=false/\w1.frozen? ⟨q,1,none⟩=false/\w1.frozen? ⟨q,2,none⟩=false/\w1.frozen? ⟨q,3,none⟩=false):w2.cell? ⟨q,0,none⟩=some e/\w2.cell? ⟨q,1,none⟩=some f/\w2.cell? ⟨q,2,none⟩=some g/\w2.cell? ⟨q,3,none⟩=some h/\ w2.frozen? ⟨q,0,none⟩=false/\w2.frozen? ⟨q,1,none⟩=false/\w2.frozen? ⟨q,2,none⟩=false/\w2.frozen? ⟨q,3,none⟩=false:=by
 obtain⟨i,j,l,m,d0,d1,d2,d3⟩:=k;have b:=ar d;have c:=gF d;exact⟨(b _ _ a).trans i,(b _ _ a).trans j,(b _ _ a).trans l,(b _ _ a).trans m,(c _ _ a).trans d0,(c _ _ a).trans d1,(c _ _ a).trans d2,(c _ _ a).trans d3⟩
theorem gJ.box{n:Nat}{p:List (Tm n)}{w w1 w2:World}{a:Option Addr}{c:Nat}{l:List (Tm n)}(r:gJ n p w1 w2 a c l)(h:aj w w1)(f:w.heap.size+1<w1.heap.size)(v0 v1 v2 v3:Value):gJ n p w (cW w2 (w.heap.size+1) 0 v0 v1 v2 v3) a c l:=by
 obtain⟨s,t,u,v,x,d⟩:=r;have e:=h.trans (s.mono h.size);have F:=h.size;refine⟨⟨e.os,e.tape,e.output,az e.size (dz (bq _ _ _ _).symm),λj f=>(aW (by omega) _ _ _ _).trans (e.block j f)⟩,t,u,v,x,?_⟩;rcases d with d|⟨b,o,q,i,y,d⟩
 ·exact ah d
 ·refine ai ⟨b,o,q,⟨by omega,i.2.1,λB=>?_,i.2.2.2⟩,by rw[bq];exact y,λA E z=>?_⟩
  ·have k:=i.2.2.1 B;unfold World.frozen? at k ⊢;rw[aW (w:=w2) (g:=w.heap.size+1) (b:=b) (o:=0) (by omega) v0 v1 v2 v3];exact k
  obtain⟨C,D,m⟩:=d A E z;refine⟨C.block (aW (by omega) _ _ _ _),?_,m.mono λj f=>by omega⟩;rw[bq];exact In.off (λj f=>aW (by omega) _ _ _ _) m D
theorem mj(x:Nd)(a:cg x=true):x.2.2.1<=8:=by
 by_cases b:x.1.1=4
 ·simp[cg,b]at a;omega
 ·have:=(eI x a).2.2.2.2 b;omega
theorem sx(x:Nd)(a:cg x=true):x.1.2.2.size<=8:=by
 by_cases c:x.1.1=2
 ·simp[cg,c,dF,oe]at a;omega
 ·have b:=(eI x a).1 c;have e:x.1.2.2.data.toList=[]:=by rw[bE]at b;exact b
  have:x.1.2.2.size=0:=by
   have d:x.1.2.2.size=x.1.2.2.data.toList.length:=by rw[gn];rfl
   rw[d,e];rfl
  omega
theorem sj(n:Nat)(k g:Int)(s:ByteArray)(a:Option Addr)(len pc:Nat)(p:List (Tm n))(w:World)(F:s.size<=2048)(m:Hid (∀w1,aj w w1->am 56 #[ae a len pc] w1 λe w'=>∃b c l,e=.returned (ae b len c)/\Hid (gJ n p w1 w' b c l))):am 24 #[.agg #[ab k,ab g,af s,ae a len pc]] w λe w'=>∃b c l,e=.returned (.agg #[ab k,ab g,af s,ae b len c])/\Hid (gJ n p w w' b c l):=by
 go_enter func24,ntmps24;go_wp2_with fail;go_region_held3 (λw'=>w'.cell? ⟨w.heap.size,0,none⟩=some (ab k)/\w'.cell? ⟨w.heap.size,1,none⟩=some (ab g)/\w'.cell? ⟨w.heap.size,2,none⟩=some (af s)/\w'.cell? ⟨w.heap.size,3,none⟩=some (ae a len pc)) (go_keep) ((first|(go_at_call 55;refine(dR s _ F).mono ?_;rintro e w1 ⟨rfl,i⟩;have f:=aq (F4 i);have d:=aq (IS i);have q:=d.1.1;have r:=d.1.2.1;have t:=d.1.2.2.1;have u:=d.1.2.2.2;clear i)|(go_at_call 56;refine(m _ f.1).mono ?_;rintro e G ⟨b,c,l,rfl,h⟩;have j:=aq (C0 f.2.2 h.1 d.2);obtain⟨B,C,D,E,d0,d1,d2,d3⟩:=j.out;obtain⟨x,y,z,A⟩:=nT f.2.1 h.1 d.1)));have o:=aq (h.box f.1 f.2.2 (ab k) (ab g) (af s) (ae b len c));clear h f d j q r t u x y z A;go_wp2_with fail;exact av (v:=.agg #[ab k,ab g,af s,ae b len c]) (by simp[results,results24,go_sem,B,C,D,E]) rfl ⟨b,c,l,rfl,o⟩
theorem ie(n:Nat):PW n:=by
 induction n with
 | zero=>intro a m u k;exact k.elim
 | succ n ih=>
  intro a m u k j t;have E:=k;obtain⟨⟨G,H,D,K,J⟩,h⟩:=E;have s:=t (bw n a) (by simp[ax,bw]);have I:a.2.2.length<=8:=mj (bw n a) s;have C:a.1.2.2.size<=2048:=by have:=sx (bw n a) s;simp only[bw]at this;omega
  refine(sj n a.1.1 a.1.2.1 a.1.2.2 a.2.1.1 a.2.2.length a.2.1.2 a.2.2 u C ?_).mono ?_
  ·intro F i;refine sW n ih a.2.2 a.2.1.1 a.2.1.2 m F ?_ (by omega) (λe d=>aU n a e t d) (az j i.size);rcases h with h|⟨b,o,g,p,h⟩
   ·exact ah h
   ·exact ai ⟨b,o,g,p,λf e d=>⟨(h f e d).1.below (i.mono j) p,(h f e d).2.below (i.mono j)⟩⟩
  ·rintro g L ⟨w,x,l,rfl,v⟩;obtain⟨i,y,z,A,B,c⟩:=v;refine⟨(a.1,(w,x),l),by rw[<-y];rfl,i,⟨⟨G,H,D,z,A⟩,?_⟩,?_,?_⟩
   ·rcases c with c|⟨b,o,g,q,r,c⟩
    ·exact ah c
    ·exact ai ⟨b,o,g,r,λf e d=>⟨(c f e d).1,(c f e d).2.1⟩⟩
   ·rcases c with c|⟨b,o,g,q,r,c⟩
    ·exact ah c
    ·exact ai ⟨b,o,g,q.1,λf e d=>(c f e d).2.2⟩
   ·simp only[ay];simp[B]
end Go.Proofs.YtmmahddlcldmiaaGreatDoor
