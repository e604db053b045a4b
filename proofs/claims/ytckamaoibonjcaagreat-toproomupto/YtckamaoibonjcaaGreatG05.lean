/- What is proved here: plain facts and contracts that the claimed theorem stands on. No condition but those that each names. -/
import Derived.Test.YtckamaoibonjcaaGreatG04
import Derived.Deep.RegionHeld3
import Derived.Deep.DrawnRows
namespace Go.Proofs.YtckamaoibonjcaaGreat
open Go.RowKit
set_option maxHeartbeats 400000
def bZ(P:Nat->Prop):(n:Nat)->Tm n->Prop
 | 0,_=>False
 | n+1,x=>x.2.2=[]\/∃b o,x.2.1.1=some ⟨b,o,none⟩/\P b/\∀(i:Nat)(y:Tm n),x.2.2[i]?=some y->bZ P n y
theorem bZ.mono{P Q:Nat->Prop}(a:∀b,P b->Q b):{n:Nat}->{x:Tm n}->bZ P n x->bZ Q n x
 | 0,_,k=>k
 | _+1,_,k=>by
  rcases k with k|⟨b,o,e,c,k⟩
  ·exact ah k
  ·exact ai ⟨b,o,e,a b c,λi y d=>(k i y d).mono a⟩
theorem bt{w w':World}{b:Nat}(a:w'.heap[b]?=w.heap[b]?)(o:Nat):w'.cell? ⟨b,o,none⟩=w.cell? ⟨b,o,none⟩:=by
 simp[World.cell?,a]
theorem dE.block{w w':World}{b o:Nat}(a:w'.heap[b]?=w.heap[b]?):{n:Nat}->{x:Tm n}->dE w b o n x->dE w' b o n x
 | 0,_,k=>k
 | _+1,_,k=>by
  obtain⟨c,d,e,f⟩:=k;exact⟨(bt a _).trans c,(bt a _).trans d,(bt a _).trans e,(bt a _).trans f⟩
theorem In.off{P:Nat->Prop}{w w':World}(f:∀b,P b->w'.heap[b]?=w.heap[b]?){B:Nat}:{n:Nat}->{x:Tm n}->bZ P n x->In B w n x->In B w' n x
 | 0,_,_,k=>k
 | _+1,_,p,k=>by
  obtain⟨m,a⟩:=k;refine⟨m,?_⟩;rcases a with a|⟨b,o,e,j,a⟩
  ·exact ah a
  ·rcases p with p|⟨q,r,c,l,p⟩
   ·exact ah p
   ·rw[e]at c;injection c with c;injection c with g h;subst g h;exact ai ⟨b,o,e,j,λi y d=>⟨(a i y d).1.block (f b l),(a i y d).2.off f (p i y d)⟩⟩
theorem In.offB{P:Nat->Prop}{B:Nat}{w:World}:{n:Nat}->{x:Tm n}->bZ P n x->In B w n x->bZ (λb=>P b/\b<B) n x
 | 0,_,p,_=>p
 | _+1,_,p,k=>by
  obtain⟨_,a⟩:=k;rcases p with p|⟨b,o,e,h,p⟩
  ·exact ah p
  ·rcases a with a|⟨l,m,c,j,a⟩
   ·exact ah a
   ·rw[e]at c;injection c with c;injection c with f g;subst f g;exact ai ⟨b,o,e,⟨h,j⟩,λi y d=>In.offB (p i y d) (a i y d).2⟩
def gd:(n:Nat)->Tm n->Nd
 | 0,_=>((0,0,⟨#[]⟩),(none,0,0))
 | n+1,x=>bA n x
theorem KV{w:World}{base g c L:Nat}{n:Nat}{l:List (Tm (n+1))}(a:w.ownsRow base 30 4 (ae (some ⟨g,0,none⟩) L c) L (cr (l.map (gd (n+1)))))(k:Nat)(x:Tm (n+1))(d:l[k]?=some x):dE w g (0+k*4) (n+1) x:=by
 have b:=CX a k (gd (n+1) x) (by simp[d]);rw[cT];exact b
def qn(base:Nat)(n:Nat)(l:List (Tm n))(v:Value)(w:World):Prop:=
 w.ownsRow base 30 4 v l.length (cr (l.map (gd n)))/\∀a∈l,In w.heap.size w n a/\bZ (λb=>base<=b/\v.ownBlock≠some b) n a
theorem qn.tup{base n:Nat}{l:List (Tm (n+1))}{v:Value}{w:World}(m:qn base (n+1) l v w):∃a c,v=ae a l.length c/\bZ (λb=>base<=b) (n+2) ((4,0,⟨#[]⟩),(a,c),l)/\In w.heap.size w (n+2) ((4,0,⟨#[]⟩),(a,c),l):=by
 obtain⟨i,j⟩:=m;have d:dn 4/\dn 0/\(⟨#[]⟩:ByteArray).size<=maxLen:=⟨⟨by omega,by omega⟩,⟨by omega,by omega⟩,aE _⟩;have e:=i;obtain⟨y,e⟩:=e;rcases e with⟨e,o⟩|⟨f,cap,x,rfl,r,s,q,u,A,z⟩
 ·have:l=[]:=bH o;subst this;refine⟨none,0,by rw[e];rfl,ah rfl,⟨d.1,d.2.1,d.2.2,aE _,aE _⟩,ah rfl⟩
 ·have t:f<w.heap.size:=(aD.1 s).1;refine⟨some ⟨f,0,none⟩,cap,rfl,ai ⟨f,0,rfl,r,λk h g=>((j h (aG g)).2).mono λb p=>p.1⟩,⟨d.1,d.2.1,d.2.2,q,u⟩,ai ⟨f,0,rfl,t,λk h g=>⟨KV i k h g,(j h (aG g)).1⟩⟩⟩
def sA(a:An):Nd:=gd a.1 a.2
def fP(l:List An):List Value:=cr (l.map sA)
theorem kB(l:List An):(fP l).length=l.length*4:=by simp[fP,nH]
theorem zv(l:List An):∀a∈fP l,a.oneCell'=true:=sB _
def mD(base:Nat)(g c:Nat)(b:List An)(w:World):Prop:=w.ownsRow base 30 4 (ae (some ⟨g,0,none⟩) b.length c) b.length (fP b)
theorem mD.cells{base g c:Nat}{b:List An}{w:World}(a:mD base g c b w)(i:Nat)(y:An)(d:b[i]?=some y):w.cell? ⟨g,i*4,none⟩=some (ab (sA y).1.1)/\w.cell? ⟨g,i*4+1,none⟩=some (ab (sA y).1.2.1)/\w.cell? ⟨g,i*4+2,none⟩=some (af (sA y).1.2.2)/\w.cell? ⟨g,i*4+3,none⟩=some (.slice (sA y).2.1 (sA y).2.2.1 (sA y).2.2.2):=
 CX (l:=b.map sA) a i (sA y) (by simp[d])
theorem mD.lt{base g c:Nat}{b:List An}{w:World}(a:mD base g c b w):base<=g/\g<w.heap.size:=World.ownsRow.lt a g rfl
theorem mD.kept{base g c:Nat}{b:List An}{w w':World}(d:mD base g c b w){row:Option Nat}(e:w.grownBy w' row)(f:row≠some g):mD base g c b w':=
 oS d e (ai λa=>f a.symm)
theorem cM{w w':World}(a:aj w w')(row:Option Nat):w.grownBy w' row:=⟨a.os,a.tape,a.output,a.size,λk b _=>a.block k b⟩
theorem mD.below{base g c:Nat}{b:List An}{w w':World}(a:mD base g c b w)(d:aj w w'):mD base g c b w':=a.kept (cM d none) (by simp)
theorem nD{w w':World}{g B:Nat}(a:w.grownBy w' (some g))(b:B<=g)(c:g<w.heap.size):Below B w w':=⟨a.os,a.tape,a.output,a.size,λk d=>a.block k (by omega) (by simp;omega)⟩
theorem kY{w w1 w2:World}{row:Option Nat}(a:w.grownBy w1 row)(k:w1.grownBy w2 row):w.grownBy w2 row:=
 ⟨k.os.trans a.os,k.tape.trans a.tape,k.output.trans a.output,ay a.size k.size,λb c d=>(k.block b (aN c a.size) d).trans (a.block b c d)⟩
theorem mD.free{base g c:Nat}{b:List An}{w:World}(e:mD base g c b w)(j:Nat):w.frozen? ⟨g,j,none⟩=false:=by
 obtain⟨n,d⟩:=e;rcases d with⟨d,_⟩|⟨m,cap,i,h,q,f,o,r,s,p⟩
 ·simp at d
 ·injection h with a k l;injection a with a;injection a with a _;subst a;simp[World.frozen?,f]
def cJ(w:World)(g o:Nat)(v0 v1 v2 v3:Value):World:=(((w.setCell ⟨g,o,none⟩ v0).setCell ⟨g,o+1,none⟩ v1).setCell ⟨g,o+2,none⟩ v2).setCell ⟨g,o+3,none⟩ v3
def jc(w:World)(g o:Nat)(x:Nd):World:=cJ w g o (ab x.1.1) (ab x.1.2.1) (af x.1.2.2) (ae x.2.1 x.2.2.1 x.2.2.2)
theorem iW{w:World}{base e size g L c:Nat}{xs:List Value}(i:w.ownsRow base e size (ae (some ⟨g,0,none⟩) L c) L xs)(j:Nat)(d:Value):(w.setCell ⟨g,j,none⟩ d).ownsRow base e size (ae (some ⟨g,0,none⟩) L c) L (xs.set j d):=by
 obtain⟨k,b⟩:=i;refine⟨by simpa using k,?_⟩;rcases b with⟨b,_⟩|⟨t,cap,f,q,n,o,l,p,r,m⟩
 ·simp at b
 ·injection q with a s h;injection a with a;injection a with a _;subst a h;refine ai ⟨g,c,f.setIfInBounds j d,rfl,n,?_,l,p,by simpa using r,?_⟩
  ·simp[World.setCell,bG,o]
  ·rw[<-m];simp[List.take_set]
theorem sC:(l:List Nd)->(i:Nat)->(x:Nd)->i<l.length-> ((((cr l).set (i*4) (ab x.1.1)).set (i*4+1) (ab x.1.2.1)).set (i*4+2) (af x.1.2.2)).set (i*4+3) (ae x.2.1 x.2.2.1 x.2.2.2)=cr (l.set i x)
 | [],i,x,h=>by simp at h
 | y::l,0,x,_=>by simp[cr,uF]
 | y::l,i+1,x,h=>by
  have ih:=sC l i x (by simpa using h);have e:cr (y::l)=uF y++cr l:=rfl;have b:cr ((y::l).set (i+1) x)=uF y++cr (l.set i x):=rfl;have a:(uF y).length=4:=rfl;rw[e,b,<-ih];rw[ie _ _ (by rw[a];omega),ie _ _ (by rw[a];omega),ie _ _ (by rw[a];omega),ie _ _ (by rw[a];omega),a];rw[show (i+1)*4-4=i*4 by omega,show (i+1)*4+1-4=i*4+1 by omega,show (i+1)*4+2-4=i*4+2 by omega,show (i+1)*4+3-4=i*4+3 by omega]
theorem mD.put{base g c:Nat}{b:List An}{w:World}(d:mD base g c b w)(i:Nat)(t:An)(e:i<b.length):mD base g c (b.set i t) (jc w g (i*4) (sA t)):=by
 have a:=iW (iW (iW (iW d (i*4) (ab (sA t).1.1)) (i*4+1) (ab (sA t).1.2.1)) (i*4+2) (af (sA t).1.2.2)) (i*4+3) (.slice (sA t).2.1 (sA t).2.2.1 (sA t).2.2.2);unfold fP at a;rw[sC (b.map sA) i (sA t) (by simpa using e)]at a;unfold mD fP;rw[List.map_set,List.length_set];exact a
theorem aV{w:World}{g b o:Nat}(c:b≠g)(v0 v1 v2 v3:Value):(cJ w g o v0 v1 v2 v3).heap[b]?=w.heap[b]? :=by
 have d:g≠b:=λa=>c a.symm;simp[cJ,World.setCell,bG,d]
theorem bm{w:World}{g o:Nat}(v0 v1 v2 v3:Value):(cJ w g o v0 v1 v2 v3).heap.size=w.heap.size:=by simp[cJ,World.setCell]
theorem C7{w:World}{g o:Nat}(v0 v1 v2 v3:Value):w.grownBy (cJ w g o v0 v1 v2 v3) (some g):=
 ⟨rfl,rfl,rfl,dt (bm _ _ _ _).symm,λk _ b=>aV (λa=>b (by rw[a])) _ _ _ _⟩
theorem DT{w w':World}{v0 v1 v2 v3:Value}{t:TypeId}(c:Below (w.alloc (.cells #[v0,v1,v2,v3] t)).heap.size (w.alloc (.cells #[v0,v1,v2,v3] t)) w'):(w'.cell? ⟨w.heap.size,0,none⟩=some v0/\w'.cell? ⟨w.heap.size,1,none⟩=some v1/\w'.cell? ⟨w.heap.size,2,none⟩=some v2/\w'.cell? ⟨w.heap.size,3,none⟩=some v3)/\ (w'.frozen? ⟨w.heap.size,0,none⟩=false/\w'.frozen? ⟨w.heap.size,1,none⟩=false/\w'.frozen? ⟨w.heap.size,2,none⟩=false/\w'.frozen? ⟨w.heap.size,3,none⟩=false):=by
 have a:=λo=>c.cell (p:=⟨w.heap.size,o,none⟩) (by simp);have b:=λo=>c.frozen (p:=⟨w.heap.size,o,none⟩) (by simp);exact⟨⟨(a 0).trans (by simp[go_sem]),(a 1).trans (by simp[go_sem]),(a 2).trans (by simp[go_sem]),(a 3).trans (by simp[go_sem])⟩,(b 0).trans (by simp[go_sem]),(b 1).trans (by simp[go_sem]),(b 2).trans (by simp[go_sem]),(b 3).trans (by simp[go_sem])⟩
theorem ny{w1 w2:World}{q:Nat}{c d e f:Value}(b:q<w1.heap.size)(l:aj w1 w2)(k:w1.cell? ⟨q,0,none⟩=some c/\w1.cell? ⟨q,1,none⟩=some d/\w1.cell? ⟨q,2,none⟩=some e/\w1.cell? ⟨q,3,none⟩=some f):w2.cell? ⟨q,0,none⟩=some c/\w2.cell? ⟨q,1,none⟩=some d/\w2.cell? ⟨q,2,none⟩=some e/\w2.cell? ⟨q,3,none⟩=some f:=by
 obtain⟨g,h,i,j⟩:=k;have a:=aq l;exact⟨(a _ _ b).trans g,(a _ _ b).trans h,(a _ _ b).trans i,(a _ _ b).trans j⟩
def ey(base g c:Nat)(o:Option (List An))(w:World)(e:Ending)(w':World):Prop:=
 e=.returned (.bool o.isSome)/\w.grownBy w' (some g)/\∀b,o=some b->mD base g c b w'
def BS(B:Nat)(w:World)(b:List An):Prop:=b.length=4/\∀y∈b,EK B w y/\az y
theorem EK.below{B:Nat}{w w':World}(a:Below B w w'){x:An}(k:EK B w x):EK B w' x:=In.below a k
theorem BS.below{B:Nat}{w w':World}(c:Below B w w'){b:List An}(k:BS B w b):BS B w' b:=⟨k.1,λy a=>⟨(k.2 y a).1.below c,(k.2 y a).2⟩⟩
theorem BS.fit{B:Nat}{w:World}{b a:List An}(k:BS B w b){n m:Nat}{p:Tm n}{t:Tm m}(f:In B w m t)(e:az ⟨m,t⟩)(d:gQ n p m t b=some a):BS B w a:=
 kD (λc=>EK B w c/\az c) (F8 (Jb B w) aT) n p m t ⟨f,e⟩ b a k d
def Mo(n:Nat):Prop:=∀(p:Tm n)(m:Nat)(t:Tm m)(b:List An)(base g c B:Nat)(w:World),In B w n p->In B w m t->az ⟨n,p⟩->az ⟨m,t⟩->BS B w b->B<=base->mD base g c b w->
 am 160 #[ae (some ⟨g,0,none⟩) 4 c,dj n p,dj m t] w (ey base g c (gQ n p m t b) w)
theorem tU(x y:Int)(w:World):am 178 #[ab x,ab y] w λe w'=>e=.returned (ab (nA x y))/\w'=w:=by
 go_enter Tryz.func178,Tryz.ntmps178;go_wp2
 all_goals go_ret
 all_goals refine⟨iU ?_,rfl⟩
 all_goals unfold nA
 all_goals (repeat' split)<;>omega
theorem Ht(x y:ByteArray)(w:World):am 179 #[af x,af y] w λe w'=>e=.returned (ab (vw x y))/\w'=w:=by
 go_enter Tryz.func179,Tryz.ntmps179;go_wp2
 all_goals go_ret
 all_goals refine⟨iU ?_,rfl⟩
 all_goals unfold vw
 all_goals simp[*]
attribute [local go_sem ↓] Go.wp_at_zero Go.wp_at_succ
def F5(n:Nat):Prop:=∀(x:Tm n)(m:Nat)(y:Tm m)(B:Nat)(w:World),In B w n x->In B w m y->B<=w.heap.size->
 am 173 #[dj n x,dj m y] w λe w'=>e=.returned (ab (wG n x m y))/\aj w w'
theorem Kv(p q:Nat)(a c:Option Addr)(pc d:Nat)(w:World)(_hpc:p<=9223372036854775807)(_hqc:q<=9223372036854775807)(b:((p:Int)==(q:Int))=false):am 180 #[ae a p pc,ae c q d] w λe w'=>e=.returned (ab (nA p q))/\w'=w:=by
 have f:((p:Int) !=(q:Int))=true:=by simpa using b
 go_enter Tryz.func180,Tryz.ntmps180;go_wp2_with (go_at_call 178;refine(tU _ _ _).mono ?_;rintro e w' ⟨rfl,rfl⟩)
 go_ret
 exact⟨rfl,rfl⟩
theorem Ku(n m:Nat)(ih:F5 n)(p:List (Tm n))(q:List (Tm m))(len:Nat)(M:Hid (p.length=len))(V:Hid (q.length=len))(g po h l pc X:Nat)(B:Nat)(w:World)(ah:len<=9223372036854775807)(T:g<B)(U:h<B)(L:∀(i:Nat)(y:Tm n),p[i]?=some y->dE w g (po+i*4) n y/\In B w n y)(N:∀(i:Nat)(y:Tm m),q[i]?=some y->dE w h (l+i*4) m y/\In B w m y)(o:B<=w.heap.size):am 180 #[ae (some ⟨g,po,none⟩) len pc,ae (some ⟨h,l,none⟩) len X] w λe w'=> e=.returned (ab (oY (λa b=>wG n a m b) p q))/\aj w w':=by
 go_enter Tryz.func180,Tryz.ntmps180;go_wp2_with fail;go_loopw [19] (λi wr=>∃k:Nat,k<=len/\i=ab k/\aj w wr/\Hid (oY (λa b=>wG n a m b) (p.drop k) (q.drop k)=oY (λa b=>wG n a m b) p q)) (λi _=>len-(intOf i).toNat)
 case atStart=>exact⟨0,by omega,rfl,ap _ _,rfl⟩
 case round=>
  obtain⟨k,aa,rfl,f,z⟩:=hrel;by_cases K:k<len
  ·obtain⟨c,A⟩:∃c,p[k]?=some c:=⟨p[k]'(by rw[M.out];exact K),aH _⟩;obtain⟨y,C⟩:∃y,q[k]?=some y:=⟨q[k]'(by rw[V.out];exact K),aH _⟩;obtain⟨s,t⟩:=L k c A;obtain⟨u,v⟩:=N k y C;have E:Hid (oY (λa b=>wG n a m b) (p.drop k) (q.drop k)=if wG n c m y=0 then oY (λa b=>wG n a m b) (p.drop (k+1)) (q.drop (k+1))else wG n c m y):=FY (λa b=>wG n a m b) p q k c y A C;replace s:=s.below (f.mono o) T;replace u:=u.below (f.mono o) U;replace t:=t.below (f.mono o);replace v:=v.below (f.mono o);clear L N A C;cases n with
   | zero=>exact s.elim
   | succ n=>
   cases m with
   | zero=>exact u.elim
   | succ m=>
   obtain⟨al,an,ar,au⟩:=s;obtain⟨y0,y1,y2,av⟩:=u;have J:∀(d:World),In B d (n+1) c->In B d (m+1) y->B<=d.heap.size->am 173 #[.agg #[ab c.1.1,ab c.1.2.1,af c.1.2.2,ae c.2.1.1 c.2.2.length c.2.1.2],.agg #[ab y.1.1,ab y.1.2.1,af y.1.2.2,ae y.2.1.1 y.2.2.length y.2.1.2]] d λe w'=>e=.returned (ab (wG (n+1) c (m+1) y))/\aj d w':=λd P Q R=>ih c (m+1) y B d P Q R;have D:=ao J;clear J ih;have F:=ao t;have G:=ao v;clear t v;generalize wG (n+1) c (m+1) y=r at*;generalize c.2.2.length=Y at*;generalize y.2.2.length=yl at*;have ad:(0:Int)<=(k:Int):=by omega
   have ag:(k:Int)<(len:Int):=by omega
   have S:B<=wr.heap.size:=ay o f.size;have O:=ao (D.out wr.drew (F.out.below (ap _ _).drew) (G.out.below (ap _ _).drew) S);have ai:g<wr.heap.size:=by omega
   have ak:h<wr.heap.size:=by omega
   clear D F G;go_wp2_with fail
   go_region_held3 (λw'=>w'.cell? ⟨g,po+k*4,none⟩=some (ab c.1.1)/\w'.cell? ⟨g,po+k*4+1,none⟩=some (ab c.1.2.1)/\w'.cell? ⟨g,po+k*4+2,none⟩=some (af c.1.2.2)/\w'.cell? ⟨g,po+k*4+3,none⟩=some (ae c.2.1.1 Y c.2.1.2)
       /\w'.cell? ⟨h,l+k*4,none⟩=some (ab y.1.1)/\w'.cell? ⟨h,l+k*4+1,none⟩=some (ab y.1.2.1)/\w'.cell? ⟨h,l+k*4+2,none⟩=some (af y.1.2.2)/\w'.cell? ⟨h,l+k*4+3,none⟩=some (ae y.2.1.1 yl y.2.1.2))
    (go_keep) ((go_at_call 173;refine O.out.mono ?_;rintro e d ⟨rfl,H⟩;have Z:=aq (cF H)))
   have I:aj w d:=f.trans ((cF H).mono f.size);by_cases j:r=0
   ·have x:Hid (r=0):=j;have W:(r !=0)=false:=by rw[j];rfl
    clear j;go_wp2_with fail;go_roundw
    case rel=>exact⟨k+1,by omega,by go_num,I,by rw[<-z.out,E.out,if_pos x.out];rfl⟩
    case measure=>simp[intOf];omega
   ·have x:Hid (¬r=0):=j;have W:(r !=0)=true:=by simpa using j
    clear j;go_wp2_with fail
    go_ret
    exact⟨iU (by rw[<-z.out,E.out,if_neg x.out]),I⟩
  ·go_wp2_with fail
   go_ret
   refine⟨iU ?_,f⟩;rw[<-z.out,jj (by rw[M.out];omega)];rfl
theorem zB(n m:Nat)(a c:Option Addr)(pc d:Nat)(w:World):am 180 #[.slice a ([]:List (Tm n)).length pc,.slice c ([]:List (Tm m)).length d] w λe w'=>e=.returned (ab (oY (λa b=>wG n a m b) [] []))/\aj w w':=by
 show am 180 #[ae a 0 pc,ae c 0 d] w λe w'=>e=.returned (ab 0)/\aj w w';go_enter Tryz.func180,Tryz.ntmps180;go_wp2_with fail
 go_loop [19] (λf=>f=ab 0) (λ_=>0)
 case atStart=>rfl
 case round=>
  obtain rfl:=hrel;go_wp2_with fail
  go_ret
  exact⟨rfl,ap _ _⟩
theorem CW(w:World)(k b h i:Int)(s g:ByteArray)(a c:Option Addr)(pl f pc d:Nat)(e:¬k=b):am 173 #[.agg #[ab k,ab h,af s,ae a pl pc],.agg #[ab b,ab i,af g,ae c f d]] w λe w'=>e=.returned (ab (nA k b))/\aj w w':=by
 have j:(k !=b)=true:=by simpa using e
 clear e;go_enter Tryz.func173,Tryz.ntmps173;go_wp2_with (go_at_call 178;refine(tU _ _ _).mono ?_;rintro e w' ⟨rfl,rfl⟩)
 go_ret
 exact⟨rfl,((ap _ _).alloc (ak _) _).alloc (by simp) _⟩
theorem rO(w:World)(k d f:Int)(s c:ByteArray)(a g:Option Addr)(pl i pc h:Nat)(r:Int)(b:k=1\/k=3\/k=5):am 173 #[.agg #[ab k,ab d,af s,ae a pl pc],.agg #[ab k,ab f,af c,ae g i h]] w λe w'=>e=.returned (ab (if k=1\/k=3\/k=5 then nA d f else if k=2 then vw s c else if k=4 then r else 0))/\aj w w':=by
 rw[if_pos b];rcases b with rfl|rfl|rfl
 all_goals
  go_enter Tryz.func173,Tryz.ntmps173;go_wp2_with (go_at_call 178;refine(tU _ _ _).mono ?_;rintro e w' ⟨rfl,rfl⟩)
  go_ret
  exact⟨rfl,((ap _ _).alloc (ak _) _).alloc (by simp) _⟩
theorem F0(w:World)(g h:Int)(s b:ByteArray)(a c:Option Addr)(pl f pc d:Nat):am 173 #[.agg #[ab 2,ab g,af s,ae a pl pc],.agg #[ab 2,ab h,af b,ae c f d]] w λe w'=>e=.returned (ab (vw s b))/\aj w w':=by
 go_enter Tryz.func173,Tryz.ntmps173;go_wp2_with (go_at_call 179;refine(Ht _ _ _).mono ?_;rintro e w' ⟨rfl,rfl⟩)
 go_ret
 exact⟨rfl,((ap _ _).alloc (ak _) _).alloc (by simp) _⟩
theorem CV(w:World)(k m n:Int)(s l:ByteArray)(a h:Option Addr)(pl j pc i:Nat)(b:¬k=1)(c:¬k=2)(d:¬k=3)(f:¬k=4)(g:¬k=5):am 173 #[.agg #[ab k,ab m,af s,ae a pl pc],.agg #[ab k,ab n,af l,ae h j i]] w λe w'=>e=.returned (ab 0)/\aj w w':=by
 have o:(k==1)=false:=by simpa using b
 have p:(k==2)=false:=by simpa using c
 have q:(k==3)=false:=by simpa using d
 have r:(k==4)=false:=by simpa using f
 have t:(k==5)=false:=by simpa using g
 clear b c d f g;go_enter Tryz.func173,Tryz.ntmps173;go_wp2_with fail
 go_ret
 exact⟨rfl,((ap _ _).alloc (ak _) _).alloc (by simp) _⟩
theorem F4(w:World)(j k:Int)(s i:ByteArray)(a b:Option Addr)(pl f pc d:Nat)(r:Int)(c:∀w1:World,aj w w1->am 180 #[ae a pl pc,ae b f d] w1 λe w'=>e=.returned (ab r)/\aj w1 w'):am 173 #[.agg #[ab 4,ab j,af s,ae a pl pc],.agg #[ab 4,ab k,af i,ae b f d]] w λe w'=>e=.returned (ab r)/\aj w w':=by
 have g:=ao c;clear c;go_enter Tryz.func173,Tryz.ntmps173;go_wp2_with fail;refine(g.out _ (((ap _ _).alloc (ak _) _).alloc (by simp) _)).mono ?_;rintro e w' ⟨rfl,h⟩;go_wp2_with fail
 go_ret
 exact⟨rfl,(((ap _ _).alloc (ak _) _).alloc (by simp) _).trans (h.mono (by simp;omega))⟩
theorem FZ(n:Nat):F5 n:=by
 induction n with
 | zero=>intro U h t H g G;exact G.elim
 | succ n ih=>
  intro U h t H g G r w;cases h with
  | zero=>exact r.elim
  | succ h=>
  obtain⟨⟨k,l,i⟩,⟨a,pc⟩,c⟩:=U;obtain⟨⟨z,m,j⟩,⟨f,e⟩,d⟩:=t;obtain⟨⟨M,Y,S,P,E⟩,p⟩:=G;obtain⟨⟨N,Z,T,R,F⟩,q⟩:=r;simp only at M Y S P E p N Z T R F q
  show am 173 #[.agg #[ab k,ab l,af i,ae a c.length pc],.agg #[ab z,ab m,af j,ae f d.length e]] g λo B=>o=.returned (ab (if k=z then
   if k=1\/k=3\/k=5 then nA l m else if k=2 then vw i j else if k=4 then if c.length=d.length then oY (λa b=>wG n a h b) c d else nA c.length d.length
   else 0 else nA k z))/\aj g B
  have V:∀s:World,aj g s->am 180 #[ae a c.length pc,ae f d.length e] s λo B=>o=.returned (ab (if c.length=d.length then oY (λa b=>wG n a h b) c d else nA c.length d.length))/\aj s B:=by
   intro s x;unfold maxLen at E F;by_cases u:c.length=d.length
   ·rw[if_pos u];rcases p with p|⟨aa,po,rfl,O,p⟩
    ·subst p;have X:d=[]:=bH u.symm;subst X;exact zB n h a f pc e s
    ·rcases q with q|⟨ad,ag,rfl,Q,q⟩
     ·subst q;have W:c=[]:=bH u;subst W;exact zB n h _ f pc e s
     ·have L:=Ku n h ih c d c.length rfl u.symm aa po ad ag pc e H s (by omega) O Q (λy t r=>⟨(p y t r).1.below (x.mono w) O,(p y t r).2.below (x.mono w)⟩)
        (λy t r=>⟨(q y t r).1.below (x.mono w) Q,(q y t r).2.below (x.mono w)⟩) (ay w x.size)
      rw[u]at L;rw[u];exact L
   ·rw[if_neg u];refine(Kv c.length d.length a f pc e s (by omega) (by omega) (by simp;omega)).mono ?_;rintro o B ⟨rfl,rfl⟩;exact⟨rfl,ap _ _⟩
  generalize (if c.length=d.length then oY (λa b=>wG n a h b) c d else nA c.length d.length)=A at*;clear p q ih P E R F S T w;generalize c.length=pl at*;generalize d.length=v at*;obtain⟨ak,an⟩:=M;obtain⟨al,ao⟩:=N;by_cases o:k=z
  ·subst o;rw[if_pos rfl];by_cases I:k=1
   ·subst I;exact rO g 1 l m i j a f pl v pc e A (ah rfl)
   by_cases J:k=3
   ·subst J;exact rO g 3 l m i j a f pl v pc e A (ai (ah rfl))
   by_cases K:k=5
   ·subst K;exact rO g 5 l m i j a f pl v pc e A (ai (ai rfl))
   rw[if_neg (by omega)];by_cases C:k=2
   ·subst C;exact F0 g l m i j a f pl v pc e
   rw[if_neg C];by_cases D:k=4
   ·subst D;exact F4 g l m i j a f pl v pc e A V
   rw[if_neg D];exact CV g k l m i j a f pl v pc e I C J D K
  ·rw[if_neg o];exact CW g k z l m i j a f pl v pc e o
theorem iZ(k b:Int)(s:ByteArray)(a:Option Addr)(l c:Nat)(w:World):am 170 #[.agg #[ab k,ab b,af s,ae a l c]] w λe w'=>e=.returned (.bool (!(k==6)))/\aj w w':=by
 cases h:k==6
 all_goals
  go_enter Tryz.func170,Tryz.ntmps170;go_wp2_with fail
  go_ret
  exact⟨fB (by simp[bne,h]),(ap _ _).alloc (ak _) _⟩
theorem AV(x:An)(y:An)(B:Nat)(w:World)(d:EK B w x)(f:EK B w y)(b:B<=w.heap.size)(g:az x)(h:az y):am 173 #[dj x.1 x.2,dj y.1 y.2] w λe w'=>∃r,e=.returned (ab r)/\Hid ((r==0)=dT x y)/\aj w w':=by
 refine(FZ x.1 x.2 y.1 y.2 B w d f b).mono ?_;rintro e w' ⟨rfl,c⟩;refine⟨_,rfl,?_,c⟩;have a:=AU x.1 x.2 y.1 y.2 g h;unfold Hid dT;cases hs:ax x.1 x.2 y.1 y.2
 ·rw[hs]at a;simp only[oE,iff_false]at a;simpa using a
 ·rw[hs]at a;simp only[iff_true]at a;simpa using a
theorem Ix(b:List An)(base g c B:Nat)(w:World)(k:Nat)(K:k<4)(m:Nat)(t:Tm (m+1))(y:BS B w b)(M:In B w (m+1) t)(L:az ⟨m+1,t⟩)(Y:B<=base)(H:mD base g c b w):am 171 #[ae (some ⟨g,0,none⟩) 4 c,ab k,.agg #[ab t.1.1,ab t.1.2.1,af t.1.2.2,ae t.2.1.1 t.2.2.length t.2.1.2]] w (ey base g c (ub b k ⟨m+1,t⟩) w):=by
 obtain⟨a,v⟩:∃a,b[k]?=some a:=⟨b[k]'(by rw[y.1];exact K),aH _⟩;obtain⟨E,N⟩:=y.2 a (aG v);obtain⟨n,a⟩:=a;cases n with
 | zero=>exact E.elim
 | succ n=>
 have D:Hid (ub b k ⟨m+1,t⟩=if a.1.1=6 then some (b.set k ⟨m+1,t⟩)else if dT ⟨n+1,a⟩ ⟨m+1,t⟩then some b else none):=by simp only[Hid,ub,v,bO];rfl
 obtain⟨j,l,p,q⟩:=H.cells k _ v;simp only[sA,gd,bA]at j l p q;have ah:(0:Int)<=(k:Int):=by omega
 have ai:(k:Int)<4:=by omega
 have A:=ao H;have I:=ao v;have R:g<w.heap.size:=H.lt.2;clear v H;generalize ub b k ⟨m+1,t⟩=o at*;cases h6:a.1.1==6
 case true=>
  go_enter Tryz.func171,Tryz.ntmps171;go_wp2_with fail;refine(iZ _ _ _ _ _ _ _).mono ?_;rintro h e ⟨rfl,d⟩;have f:=ao d;clear j l p q;have r:Hid (mD base g c b e):=(A.out.kept (cZ w _ none) (by simp)).below d;have aa:=λS=>r.out.free S;obtain⟨⟨U,V,W,X⟩,_⟩:=DT d;obtain⟨j,l,p,q⟩:=r.out.cells k _ I.out;simp only[sA,gd,bA]at j l p q;clear d;go_wp2_with fail
  go_ret
  have s:o=some (b.set k ⟨m+1,t⟩):=by rw[D.out,if_pos (by simpa using h6)]
  subst s;exact⟨rfl,kY (cM (((ap _ _).alloc (ak _) _).trans (f.out.mono (by simp))) _) (C7 _ _ _ _),λJ h=>by obtain rfl:=au h;exact r.out.put k ⟨m+1,t⟩ (by rw[y.1];exact K)⟩
 case false=>
  go_enter Tryz.func171,Tryz.ntmps171;go_wp2_with fail;refine(iZ _ _ _ _ _ _ _).mono ?_;rintro h e ⟨rfl,d⟩;clear j l p q;have f:Hid (aj w e):=((ap _ _).alloc (ak _) _).trans (d.mono (by simp));have r:Hid (mD base g c b e):=(A.out.kept (cZ w _ none) (by simp)).below d;obtain⟨⟨U,V,W,X⟩,_⟩:=DT d;obtain⟨j,l,p,q⟩:=r.out.cells k _ I.out;simp only[sA,gd,bA]at j l p q;have z:Hid (B<=w.heap.size):=by have:=A.out.lt;unfold Hid;omega
  have P:Hid (w.heap.size<e.heap.size):=by have:=d.size;simp at this;unfold Hid;omega
  have F:Hid (EK B e ⟨n+1,a⟩/\EK B e ⟨m+1,t⟩):=⟨E.below (f.out.mono z.out),EK.below (x:=⟨m+1,t⟩) (f.out.mono z.out) M⟩;have Q:=ao (AV ⟨n+1,a⟩ ⟨m+1,t⟩ B e.drew (F.out.1.below (ap _ _).drew) (F.out.2.below (ap _ _).drew) (ay z.out f.out.size) N L);clear d M E y N L;go_wp2_with fail
  go_region_held3 (λi=>i.cell? ⟨g,k*4,none⟩=some (ab a.1.1)/\i.cell? ⟨g,k*4+1,none⟩=some (ab a.1.2.1)/\i.cell? ⟨g,k*4+2,none⟩=some (af a.1.2.2)/\i.cell? ⟨g,k*4+3,none⟩=some (ae a.2.1.1 a.2.2.length a.2.1.2)
        /\i.cell? ⟨w.heap.size,0,none⟩=some (ab t.1.1)/\i.cell? ⟨w.heap.size,1,none⟩=some (ab t.1.2.1)/\i.cell? ⟨w.heap.size,2,none⟩=some (af t.1.2.2)/\i.cell? ⟨w.heap.size,3,none⟩=some (ae t.2.1.1 t.2.2.length t.2.1.2))
      (go_keep) ((go_at_call 173;refine Q.out.mono ?_;rintro h O ⟨T,rfl,G,u⟩;have Z:=aq (cF u);have ad:g<e.heap.size:=aN R f.out.size;have ag:w.heap.size<e.heap.size:=P.out))
  replace u:=cF u;have C:Hid (w.grownBy O (some g)/\mD base g c b O):=⟨cM (f.out.trans (u.mono f.out.size)) _,r.out.below u⟩;have s:o=if dT ⟨n+1,a⟩ ⟨m+1,t⟩then some b else none:=by rw[D.out,if_neg (by simpa using h6)]
  rw[<-G.out]at s;clear G D;cases h0:T==0
  all_goals
   rw[h0]at s;go_wp2_with fail
   go_ret
   simp only[oE,if_false,cI]at s;subst s
  ·exact⟨rfl,C.out.1,λJ h=>by cases h⟩
  ·exact⟨rfl,C.out.1,λJ h=>by obtain rfl:=au h;exact C.out.2⟩
def Jx(x:Nd):Bool:= !(x.1.1==5) && !(x.1.1==6)
def jM(n:Nat)(x:Tm n):Bool:=(aw n x).all Jx
def aJ:(n:Nat)->Tm n->Bool
 | 0,_=>true
 | n+1,x=> !(x.1.1==5) && !(x.1.1==6) && x.2.2.all λy=>aJ n y
theorem eY:(n:Nat)->(x:Tm n)->aJ n x=jM n x
 | 0,_=>by simp[aJ,jM,aw,Jx]
 | n+1,x=>by
  have key:∀l:List (Tm n),(l.all λy=>aJ n y)=(l.flatMap λy=>aw n y).all Jx:=by
   intro l
   induction l with
   | nil=>rfl
   | cons y l ih=>
    have:=eY n y;unfold jM at this;simp only[iO,bB,kh,ih,this]
  show (!(x.1.1==5) && !(x.1.1==6) && x.2.2.all λy=>aJ n y)=(Jx (x.1,(x.2.1.1,x.2.2.length,x.2.1.2)) && (x.2.2.flatMap λy=>aw n y).all Jx);rw[key];rfl
def Nu(n:Nat):Prop:=∀(x:Tm n)(B:Nat)(w:World),In B w n x->B<=w.heap.size->
 am 52 #[dj n x] w λe w'=>e=.returned (.bool (aJ n x))/\aj w w'
theorem zP(n:Nat)(ih:Nu n)(h I:Int)(s:ByteArray)(a:Option Addr)(pc len:Nat)(p:List (Tm n))(C:Hid (p.length=len))(B:Nat)(w:World)(g:Hid (p=[]\/∃b o,a=some ⟨b,o,none⟩/\b<B/\∀(i:Nat)(y:Tm n),p[i]?=some y->dE w b (o+i*4) n y/\In B w n y))(M:len<=9223372036854775807)(r:B<=w.heap.size):am 52 #[.agg #[ab h,ab I,af s,ae a len pc]] w λe w'=>e=.returned (.bool (!(h==5) && !(h==6) && p.all λy=>aJ n y))/\aj w w':=by
 cases h5:h==5
 case true=>
  go_enter Tryz.func52,Tryz.ntmps52;go_wp2_with fail
  go_ret
  exact⟨bL (by simp),(ap _ _).alloc (ak _) _⟩
 cases h6:h==6
 case true=>
  go_enter Tryz.func52,Tryz.ntmps52;go_wp2_with fail
  go_ret
  exact⟨bL (by simp),(ap _ _).alloc (ak _) _⟩
 have v:(!false && !false && p.all λy=>aJ n y)=p.all λy=>aJ n y:=by simp
 rw[v];clear v;go_enter Tryz.func52,Tryz.ntmps52;go_wp2_with fail;go_loopw [16] (λi wr=>∃k:Nat,k<=len/\i=ab k/\aj w wr/\Hid (((p.drop k).all λy=>aJ n y)=p.all λy=>aJ n y)) (λi _=>len-(intOf i).toNat)
 case atStart=>exact⟨0,by omega,rfl,(ap _ _).alloc (ak _) _,rfl⟩
 case round=>
  obtain⟨k,J,rfl,d,t⟩:=hrel;by_cases F:k<len
  ·obtain⟨c,l⟩:∃c,p[k]?=some c:=⟨p[k]'(by rw[C.out];exact F),aH _⟩;have u:Hid (((p.drop k).all λy=>aJ n y)=(aJ n c && (p.drop (k+1)).all λy=>aJ n y)):=by
    obtain⟨j,E⟩:=aR.1 l;rw[eV j,E];rfl
   rcases g.out with g|⟨N,po,rfl,G,g⟩
   ·subst g;simp at l
   obtain⟨m,q⟩:=g k c l;replace m:=m.below (d.mono r) G;replace q:=q.below (d.mono r);clear g l;cases n with
   | zero=>exact m.elim
   | succ n=>
   obtain⟨O,P,Q,R⟩:=m;have x:B<=wr.heap.size:=ay r d.size
   have D:Hid (∀f,aj wr f->am 52 #[.agg #[ab c.1.1,ab c.1.2.1,af c.1.2.2,ae c.2.1.1 c.2.2.length c.2.1.2]] f λe w'=>e=.returned (.bool (aJ (n+1) c))/\aj f w'):=
    λf j=>ih c B f (q.below (j.mono x)) (ay x j.size)
   clear ih q;generalize c.2.2.length=S at*;generalize aJ (n+1) c=H at*;have K:(0:Int)<=(k:Int):=by omega
   have L:(k:Int)<(len:Int):=by omega
   go_wp2_with fail;refine(D.out _ ((ap _ _).alloc (ak _) _)).mono ?_;rintro e f ⟨rfl,z⟩;have A:aj w f:=(d.trans (((ap _ _).alloc (ak _) _).mono d.size)).trans (z.mono (by have:=d.size;simp;omega));clear z;cases H with
   | true=>
    go_wp2_with fail;go_roundw
    case rel=>exact⟨k+1,by omega,by go_num,A,by rw[<-t.out,u.out];rfl⟩
    case measure=>simp[intOf];omega
   | false=>
    go_wp2_with fail
    go_ret
    exact⟨bL (by rw[<-t.out,u.out];rfl),A⟩
  ·go_wp2_with fail
   go_ret
   refine⟨bL ?_,d⟩;rw[<-t.out,jj (by rw[C.out];omega)];rfl
theorem iu(n:Nat):Nu n:=by
 induction n with
 | zero=>intro g b f a;exact a.elim
 | succ n ih=>
  intro g b f a i;obtain⟨⟨k,m,l⟩,⟨h,pc⟩,e⟩:=g;obtain⟨⟨_,_,_,j,d⟩,c⟩:=a;simp only at j d c;unfold maxLen at d;exact zP n ih k m l h pc e.length e rfl b f c (by omega) i
def fh:(n:Nat)->Tm n->Int
 | 0,_=>0
 | n+1,x=>if x.1.1=4 then 1+x.2.2.foldl (λm y=>max m (fh n y)) 0 else 0
def sn(n:Nat)(p:List (Tm n))(k:Nat):Int:=(p.take k).foldl (λm y=>max m (fh n y)) 0
theorem Ch(n:Nat)(p:List (Tm n))(k:Nat)(x:Tm n)(b:p[k]?=some x):sn n p (k+1)=max (sn n p k) (fh n x):=by
 obtain⟨c,a⟩:=aR.1 b;unfold sn;rw[oN c,a,mm];rfl
theorem pG{n:Nat}(N:Int):(l:List (Tm n))->(m:Int)->0<=m->m<=N->(∀y∈l,0<=fh n y/\fh n y<=N)->0<=l.foldl (λm y=>max m (fh n y)) m/\l.foldl (λm y=>max m (fh n y)) m<=N
 | [],_,h0,h1,_=>⟨h0,h1⟩
 | y::l,m,h0,h1,h=>by
  have c:=h y (by simp);exact pG N l (max m (fh n y)) (by omega) (by omega) (λb a=>h b (by simp[a]))
theorem jQ{n:Nat}(l:List (Tm n))(y:Tm n)(c:y∈l):(aw n y).length<=(l.flatMap λy=>aw n y).length:=by
 obtain⟨a,d⟩:=cO c;have b:=EE (λy=>aw n y) l (a+1);rw[Gw _ l a y d,bj]at b;omega
theorem fR:(n:Nat)->(x:Tm n)->0<=fh n x/\fh n x<=(aw n x).length
 | 0,_=>by simp[fh]
 | n+1,x=>by
  have e:=pG ((x.2.2.flatMap λy=>aw n y).length:Int) x.2.2 0 (by omega) (by omega) (λy b=>by
   have c:=fR n y;have d:=jQ x.2.2 y b
   omega)
  simp only[fh,aw,aZ];by_cases a:x.1.1=4
  ·rw[if_pos a];omega
  ·rw[if_neg a];omega
theorem zW(n:Nat)(p:List (Tm n))(k:Nat):0<=sn n p k/\sn n p k<=(p.flatMap λy=>aw n y).length:=
 pG _ (p.take k) 0 (by omega) (by omega) (λy a=>by
  have b:=fR n y;have c:=jQ p y (List.mem_of_mem_take a)
  omega)
def Nv(n:Nat):Prop:=∀(x:Tm n)(B:Nat)(w:World),In B w n x->B<=w.heap.size->(aw n x).length<=2097152->
 am 80 #[dj n x] w λe w'=>e=.returned (ab (fh n x))/\aj w w'
theorem Ci(b d:Int)(s:ByteArray)(a:Option Addr)(len pc:Nat)(w:World)(c:¬b=4):am 80 #[.agg #[ab b,ab d,af s,ae a len pc]] w λe w'=>e=.returned (ab 0)/\aj w w':=by
 have f:(b !=4)=true:=by simpa using c
 clear c;go_enter Tryz.func80,Tryz.ntmps80;go_wp2_with fail
 go_ret
 exact⟨rfl,(ap _ _).alloc (ak _) _⟩
theorem Fe(n:Nat)(ih:Nv n)(P:Int)(s:ByteArray)(a:Option Addr)(pc len:Nat)(p:List (Tm n))(E:Hid (p.length=len))(B:Nat)(w:World)(h:Hid (p=[]\/∃b o,a=some ⟨b,o,none⟩/\b<B/\∀(i:Nat)(y:Tm n),p[i]?=some y->dE w b (o+i*4) n y/\In B w n y))(T:len<=9223372036854775807)(u:B<=w.heap.size)(O:Hid (1+(p.flatMap λy=>aw n y).length<=2097152)):am 80 #[.agg #[ab 4,ab P,af s,ae a len pc]] w λe w'=> e=.returned (ab (1+p.foldl (λm y=>max m (fh n y)) 0))/\aj w w':=by
 go_enter Tryz.func80,Tryz.ntmps80;go_wp2_with fail;go_loopw [3,12] (λt i wr=>∃k:Nat,∃d:Int,k<=len/\i=ab k/\t=ab d/\Hid (d=sn n p k)/\aj w wr) (λ_ i _=>len-(intOf i).toNat)
 case atStart=>exact⟨0,0,by omega,rfl,rfl,by simp[Hid,sn],(ap _ _).alloc (ak _) _⟩
 case round=>
  obtain⟨k,d,Q,rfl,rfl,v,f⟩:=hrel;have r:=zW n p k;rw[<-v.out]at r;have K:=O.out;have V:0<=d:=r.1;have W:d<=2097152:=by omega
  clear r;by_cases M:k<len
  ·obtain⟨c,j⟩:∃c,p[k]?=some c:=⟨p[k]'(by rw[E.out];exact M),aH _⟩;have I:=ao (Ch n p k c j);have J:=jQ p c (aG j);have F:(aw n c).length<=2097152:=by omega
   clear J K;rcases h.out with h|⟨U,po,rfl,N,h⟩
   ·subst h;simp at j
   obtain⟨l,q⟩:=h k c j;replace l:=l.below (f.mono u) N;replace q:=q.below (f.mono u);clear h j;cases n with
   | zero=>exact l.elim
   | succ n=>
   obtain⟨X,Y,Z,aa⟩:=l;have A:B<=wr.heap.size:=ay u f.size
   have G:Hid (∀g,aj wr g->am 80 #[.agg #[ab c.1.1,ab c.1.2.1,af c.1.2.2,ae c.2.1.1 c.2.2.length c.2.1.2]] g λe w'=>e=.returned (ab (fh (n+1) c))/\aj g w'):=
    λg z=>ih c B g (q.below (z.mono A)) (ay A z.size) F
   clear ih q F;generalize c.2.2.length=ad at*;generalize fh (n+1) c=x at*;have R:(0:Int)<=(k:Int):=by omega
   have S:(k:Int)<(len:Int):=by omega
   go_wp2_with fail;refine(G.out _ ((ap _ _).alloc (ak _) _)).mono ?_;rintro e g ⟨rfl,C⟩;have L:aj w g:=(f.trans (((ap _ _).alloc (ak _) _).mono f.size)).trans (C.mono (by have:=f.size;simp;omega));clear C;have D:max d x=if d<x then x else d:=by split<;>omega
   have H:=ao D;clear D;go_wp2_with fail;go_roundw
   case rel=>exact⟨k+1,_,by omega,by go_num,rfl,by simp only[Hid];rw[I.out,<-v.out,H.out],L⟩
   case measure=>simp[intOf];omega
  ·go_wp2_with fail
   go_ret
   refine⟨iU ?_,f⟩;rw[v.out];unfold sn;rw[bC (by rw[E.out];omega)]
theorem Fc(n:Nat):Nv n:=by
 induction n with
 | zero=>intro o i b g;exact g.elim
 | succ n ih=>
  intro o i b g q m;obtain⟨⟨k,e,d⟩,⟨c,pc⟩,a⟩:=o;obtain⟨⟨_,_,_,s,l⟩,j⟩:=g;simp only at s l j;unfold maxLen at l;have r:(aw (n+1) ((k,e,d),(c,pc),a)).length=1+(a.flatMap λh=>aw n h).length:=by simp only[aw,aZ];omega
  rw[r]at m;show am 80 #[.agg #[ab k,ab e,af d,ae c a.length pc]] b λp u=>p=.returned (ab (if k=4 then 1+a.foldl (λt h=>max t (fh n h)) 0 else 0))/\aj b u;by_cases f:k=4
  ·subst f;exact Fe n ih e d c pc a.length a rfl i b j (by omega) q m
  ·rw[if_neg f];exact Ci k e d c a.length pc b f
def pi(n:Nat)(p:List (Tm n))(k:Nat):Int:=1+p.length+((p.take k).map λy=>sz n y).sum
theorem DB(n:Nat)(p:List (Tm n))(k:Nat)(x:Tm n)(b:p[k]?=some x):pi n p (k+1)=pi n p k+sz n x:=by
 obtain⟨c,a⟩:=aR.1 b;unfold pi;rw[oN c,a];simp;omega
theorem Gv(n:Nat)(l:List (Tm n)):(l.map λy=>1+sz n y).sum=l.length+(l.map λy=>sz n y).sum:=by
 induction l with
 | nil=>simp
 | cons y l ih=>simp only[aK,bv,aZ,ih];omega
theorem GJ(n:Nat)(p:List (Tm n))(k:Nat)(a:p.length<=k):pi n p k=1+(p.map λy=>1+sz n y).sum:=by
 unfold pi;rw[bC a,Gv];omega
theorem wi(n:Nat)(p:List (Tm n)):p.length<=(p.flatMap λy=>aw n y).length:=by
 induction p with
 | nil=>simp
 | cons y l ih=>
  have:1<=(aw n y).length:=by cases n<;>simp[aw]
  simp only[bB,bj,aZ];omega
theorem BB(n:Nat)(p:List (Tm n))(k:Nat):0<=pi n p k/\pi n p k<=3*(1+(p.flatMap λy=>aw n y).length:Int):=by
 have b:=wi n p;have a:=EE (λy=>aw n y) p k;have key:∀l:List (Tm n),0<=(l.map λy=>sz n y).sum/\(l.map λy=>sz n y).sum<=2*((l.flatMap λy=>aw n y).length:Int):=by
  intro l
  induction l with
  | nil=>exact⟨by simp,by simp⟩
  | cons y l ih=>
   have c:=eE n y;simp only[aK,bv,bB,bj];exact⟨by omega,by omega⟩
 have k:=key (p.take k);unfold pi;exact⟨by omega,by omega⟩
def OC(n:Nat):Prop:=∀(x:Tm n)(B:Nat)(w:World),In B w n x->B<=w.heap.size->(aw n x).length<=2097152->
 am 81 #[dj n x] w λe w'=>e=.returned (ab (sz n x))/\aj w w'
theorem Dz(b d:Int)(s:ByteArray)(a:Option Addr)(len pc:Nat)(w:World)(c:¬b=4):am 81 #[.agg #[ab b,ab d,af s,ae a len pc]] w λe w'=>e=.returned (ab 0)/\aj w w':=by
 have f:(b !=4)=true:=by simpa using c
 clear c;go_enter Tryz.func81,Tryz.ntmps81;go_wp2_with fail
 go_ret
 exact⟨rfl,(ap _ _).alloc (ak _) _⟩
theorem GI(n:Nat)(ih:OC n)(M:Int)(s:ByteArray)(a:Option Addr)(pc len:Nat)(p:List (Tm n))(l:Hid (p.length=len))(B:Nat)(w:World)(g:Hid (p=[]\/∃b o,a=some ⟨b,o,none⟩/\b<B/\∀(i:Nat)(y:Tm n),p[i]?=some y->dE w b (o+i*4) n y/\In B w n y))(v:B<=w.heap.size)(D:Hid (1+(p.flatMap λy=>aw n y).length<=2097152)):am 81 #[.agg #[ab 4,ab M,af s,ae a len pc]] w λe w'=> e=.returned (ab (1+(p.map λy=>1+sz n y).sum))/\aj w w':=by
 have S:len<=2097152:=by have u:=wi n p;have O:=D.out;rw[<-l.out];omega
 go_enter Tryz.func81,Tryz.ntmps81;go_wp2_with fail;go_loopw [3,16] (λt i wr=>∃k:Nat,∃h:Int,k<=len/\i=ab k/\t=ab h/\Hid (h=pi n p k)/\aj w wr) (λ_ i _=>len-(intOf i).toNat)
 case atStart=>exact⟨0,1+len,by omega,rfl,rfl,by simp only[Hid,pi];rw[l.out];simp,(ap _ _).alloc (ak _) _⟩
 case round=>
  obtain⟨k,h,P,rfl,rfl,x,d⟩:=hrel;have r:=BB n p k;rw[<-x.out]at r;have I:=D.out;have U:0<=h:=r.1;have V:h<=6291456:=by omega
  clear r;by_cases K:k<len
  ·obtain⟨c,j⟩:∃c,p[k]?=some c:=⟨p[k]'(by rw[l.out];exact K),aH _⟩;have G:=ao (DB n p k c j);have H:=jQ p c (aG j);have E:(aw n c).length<=2097152:=by omega
   have z:=eE n c;have ad:0<=sz n c:=z.1;have ag:sz n c<=4194304:=by omega
   clear H I z;rcases g.out with g|⟨T,po,rfl,L,g⟩
   ·subst g;simp at j
   obtain⟨m,q⟩:=g k c j;replace m:=m.below (d.mono v) L;replace q:=q.below (d.mono v);clear g j;cases n with
   | zero=>exact m.elim
   | succ n=>
   obtain⟨W,X,Y,Z⟩:=m;have A:B<=wr.heap.size:=ay v d.size
   have F:Hid (∀f,aj wr f->am 81 #[.agg #[ab c.1.1,ab c.1.2.1,af c.1.2.2,ae c.2.1.1 c.2.2.length c.2.1.2]] f λe w'=>e=.returned (ab (sz (n+1) c))/\aj f w'):=
    λf u=>ih c B f (q.below (u.mono A)) (ay A u.size) E
   clear ih q E;generalize c.2.2.length=aa at*;generalize sz (n+1) c=N at*;have Q:(0:Int)<=(k:Int):=by omega
   have R:(k:Int)<(len:Int):=by omega
   go_wp2_with fail;refine(F.out _ ((ap _ _).alloc (ak _) _)).mono ?_;rintro e f ⟨rfl,C⟩;have J:aj w f:=(d.trans (((ap _ _).alloc (ak _) _).mono d.size)).trans (C.mono (by have:=d.size;simp;omega));clear C;go_wp2_with fail;go_roundw
   case rel=>exact⟨k+1,h+N,by omega,by go_num,by go_num,by simp only[Hid];rw[G.out,<-x.out],J⟩
   case measure=>simp[intOf];omega
  ·go_wp2_with fail
   go_ret
   refine⟨iU ?_,d⟩;rw[x.out,GJ n p k (by rw[l.out];omega)]
theorem xj(n:Nat):OC n:=by
 induction n with
 | zero=>intro m i b g;exact g.elim
 | succ n ih=>
  intro m i b g p l;obtain⟨⟨k,e,d⟩,⟨c,pc⟩,a⟩:=m;obtain⟨⟨_,_,_,s,r⟩,j⟩:=g;simp only at s r j;have q:(aw (n+1) ((k,e,d),(c,pc),a)).length=1+(a.flatMap λh=>aw n h).length:=by simp only[aw,aZ];omega
  rw[q]at l;show am 81 #[.agg #[ab k,ab e,af d,ae c a.length pc]] b λo t=>o=.returned (ab (if k=4 then 1+(a.map λh=>1+sz n h).sum else 0))/\aj b t;by_cases f:k=4
  ·subst f;exact GI n ih e d c pc a.length a rfl i b j p l
  ·rw[if_neg f];exact Dz k e d c a.length pc b f
theorem By(w:World)(k g:Int)(s:ByteArray)(a:Option Addr)(l c:Nat)(j:Bool)(d n:Int)(D:Hid (∀w1,aj w w1->am 79 #[.agg #[ab k,ab g,af s,ae a l c]] w1 λe w'=>e=.returned (.bool j)/\aj w1 w'))(C:Hid (∀w1,aj w w1->am 80 #[.agg #[ab k,ab g,af s,ae a l c]] w1 λe w'=>e=.returned (ab d)/\aj w1 w'))(E:Hid (∀w1,aj w w1->am 81 #[.agg #[ab k,ab g,af s,ae a l c]] w1 λe w'=>e=.returned (ab n)/\aj w1 w')):am 51 #[.agg #[ab k,ab g,af s,ae a l c]] w λe w'=>e=.returned (ab (if j then if 12<d\/200<n then 2 else 0 else 5))/\aj w w':=by
 generalize A:(if j then if 12<d\/200<n then (2:Int)else 0 else 5)=I;have i:=ao A;clear A;go_enter Tryz.func51,Tryz.ntmps51;go_wp2_with fail;refine(D.out _ ((ap _ _).alloc (ak _) _)).mono ?_;rintro e w1 ⟨rfl,m⟩;have f:Hid (aj w w1/\w.heap.size+1<=w1.heap.size):=⟨((ap _ _).alloc (ak _) _).trans (m.mono (by simp)),by have:=m.size;simpa using this⟩;have b:=aq m;simp only[gM]at b;have t:=(b w.heap.size 0 (by omega)).trans (by simp[go_sem]:_=some (Value.int .i64 k));have u:=(b w.heap.size 1 (by omega)).trans (by simp[go_sem]:_=some (Value.int .i64 g));have v:=(b w.heap.size 2 (by omega)).trans (by simp[go_sem]:_=some (Value.string s));have x:=(b w.heap.size 3 (by omega)).trans (by simp[go_sem]:_=some (Value.slice a l c));clear b m;cases j with
 | false=>
  go_wp2_with fail
  go_ret
  exact⟨iU (by rw[<-i.out];rfl),f.out.1⟩
 | true=>
  go_wp2_with fail;refine(C.out _ f.out.1).mono ?_;rintro e G ⟨rfl,q⟩;have h:Hid (aj w G):=f.out.1.trans (q.mono f.out.1.size);have b:=aq q;have F:=f.out.2;replace t:=(b w.heap.size 0 (by omega)).trans t;replace u:=(b w.heap.size 1 (by omega)).trans u;replace v:=(b w.heap.size 2 (by omega)).trans v;replace x:=(b w.heap.size 3 (by omega)).trans x;clear b q F;by_cases y:12<d
  ·have o:=ao y;go_wp2_with fail
   go_ret
   exact⟨iU (by rw[<-i.out,if_pos trivial,if_pos (ah o.out)]),h.out⟩
  ·have o:=ao y;go_wp2_with fail;refine(E.out _ h.out).mono ?_;rintro e H ⟨rfl,z⟩;have r:Hid (aj w H):=h.out.trans (z.mono h.out.size);clear z;by_cases B:200<n
   ·have p:=ao B;go_wp2_with fail
    go_ret
    exact⟨iU (by rw[<-i.out,if_pos trivial,if_pos (ai p.out)]),r.out⟩
   ·have p:=ao B;go_wp2_with fail
    go_ret
    exact⟨iU (by rw[<-i.out,if_pos trivial,if_neg (by have:=o.out;have:=p.out;omega)]),r.out⟩
def vJ(n:Nat)(x:Tm n):Int:=if bV n x then if 12<fh n x\/200<sz n x then 2 else 0 else 5
theorem Bw(n:Nat)(x:Tm n)(B:Nat)(w:World)(d:In B w n x)(b:B<=w.heap.size)(f:(aw n x).length<=2097152):am 51 #[dj n x] w λe w'=>e=.returned (ab (vJ n x))/\aj w w':=by
 cases n with
 | zero=>exact d.elim
 | succ n=>
 exact By w x.1.1 x.1.2.1 x.1.2.2 x.2.1.1 x.2.2.length x.2.1.2 (bV (n+1) x) (fh (n+1) x) (sz (n+1) x)
  (λc a=>Cp (n+1) x B c (d.below (a.mono b)) (ay b a.size))
  (λc a=>Fc (n+1) x B c (d.below (a.mono b)) (ay b a.size) f)
  (λc a=>xj (n+1) x B c (d.below (a.mono b)) (ay b a.size) f)
theorem kX:(n:Nat)->(x:Tm n)->bV n x=(aw n x).all cv
 | 0,_=>by simp[bV,aw,cv]
 | n+1,x=>by
  have e:(aw (n+1) x).all cv=(cv (bA n x) && (x.2.2.flatMap λy=>aw n y).all cv):=rfl;rw[e];simp only[bV];cases hg:cv (bA n x)
  ·rfl
  ·rw[eg,eg];by_cases b:x.1.1=4
   ·rw[b];have key:∀l:List (Tm n),(l.all λy=>bV n y)=(l.flatMap λy=>aw n y).all cv:=by
     intro l
     induction l with
     | nil=>rfl
     | cons y l ih=>simp only[iO,bB,kh,ih,kX n y]
    rw[key];simp
   ·have c:x.2.2=[]:=by
      unfold cv at hg;simp only[aA,ic,cm]at hg;rcases hg.2 with a|a
      ·exact(b a).elim
      ·have:¬(0:Int)<(x.2.2.length:Int):=by simpa [bA]using a
       exact bH (by omega)
    rw[c];simp
def nh:List Nd->List Int->Int->Int
 | x::l,d::ds,m=>nh l ds (mH x d m)
 | _,_,m=>m
theorem zI(g:Int):(l:List Nd)->(b:List Int)->(m:Int)->l.length=b.length->Cc g l b m=if l.all cv then (if 12<nh l b m\/200<g then 2 else 0)else 5
 | [],_,_,_=>rfl
 | x::l,[],_,a=>by simp at a
 | x::l,d::b,m,a=>by
  have ih:=zI g l b (mH x d m) (by simpa using a);simp only[Cc,nh];by_cases f:cv x=true
  ·have e:(x::l).all cv=l.all cv:=by simp[f]
   rw[if_pos f,ih];by_cases c:l.all cv=true
   ·rw[if_pos c,if_pos (e.trans c)];rfl
   ·rw[if_neg c,if_neg (λa=>c (e.symm.trans a))]
  ·rw[if_neg f,if_neg (λa=>f (b9.1 a x (by simp)))]
theorem qx:(l r:List Nd)->(a es:List Int)->(m:Int)->l.length=a.length->nh (l++r) (a++es) m=nh r es (nh l a m)
 | [],_,[],_,_,_=>rfl
 | [],_,_::_,_,_,h=>by simp at h
 | _::_,_,[],_,_,h=>by simp at h
 | x::l,r,d::a,es,m,h=>by
  simp only[fG,nh];exact qx l r a es _ (by simpa using h)
theorem Ah{n:Nat}(c:Int):(p:List (Tm n))->(m e:Int)->p.foldl (λm y=>max m (c+fh n y)) (max m (c+e))=max m (c+p.foldl (λm y=>max m (fh n y)) e)
 | [],_,_=>rfl
 | y::p,m,e=>by
  simp only[fH];have a:max (max m (c+e)) (c+fh n y)=max m (c+max e (fh n y)):=by omega
  rw[a];exact Ah c p m (max e (fh n y))
theorem zU:(n:Nat)->(x:Tm n)->(d m:Int)->(∀a∈aw n x,cv a=true)->d<=m->nh (aw n x) (pd n x d) m=max m (d+fh n x)
 | 0,x,_,_,h,_=>by
  have:=h ((0,0,.empty),(none,0,0)) (by simp[aw]);rcases jV _ this with g|g|g|g|g|⟨g,_⟩<;>simp at g
 | n+1,x,d,m,h,k=>by
  have f:=h (bA n x) (by simp[aw,bA]);have key:∀(p:List (Tm n))(m:Int),(∀y∈p,y∈x.2.2)->d+1<=m->nh (p.flatMap λy=>aw n y) (p.flatMap λy=>pd n y (d+1)) m=p.foldl (λm y=>max m (d+1+fh n y)) m:=by
   intro p
   induction p with
   | nil=>intro m _ _;rfl
   | cons y p ih=>
    intro m l k;simp only[bB,fH];rw[qx _ _ _ _ _ (jN n y (d+1)).symm,zU n y (d+1) m (λa q=>h a (ot (l y (by simp)) q)) k];exact ih _ (λu t=>l u (by simp[t])) (by omega)
  have o:nh (aw (n+1) x) (pd (n+1) x d) m=nh (x.2.2.flatMap λy=>aw n y) (x.2.2.flatMap λy=>pd n y (d+1)) (mH (bA n x) d m):=rfl;rw[o];simp only[fh];by_cases b:x.1.1=4
  ·rw[if_pos b];have c:mH (bA n x) d m=max m (d+1+0):=by
    unfold mH bA;by_cases j:m<d+1
    ·rw[if_pos ⟨b,j⟩];omega
    ·rw[if_neg (λi=>j i.2)];omega
   rw[c,key x.2.2 _ (λ_ s=>s) (by omega),Ah];omega
  ·rw[if_neg b];have r:x.2.2=[]:=by
    unfold cv at f;simp only[aA,ic,cm]at f;rcases f.2 with e|e
    ·exact(b e).elim
    ·have:¬(0:Int)<(x.2.2.length:Int):=by simpa [bA]using e
     exact bH (by omega)
   have c:mH (bA n x) d m=m:=Fb _ (λi=>b i.1);rw[r,c];simp only[List.flatMap_nil,nh];omega
theorem gf(n:Nat)(x:Tm n):vJ n x=bu n x:=by
 unfold vJ bu;rw[zI _ _ _ _ (jN n x 0).symm,<-kX n x];by_cases a:bV n x=true
 ·rw[if_pos a,if_pos a];have d:∀b∈aw n x,cv b=true:=by
   rw[kX n x]at a;exact λb c=>b9.1 a b c
  have e:=fR n x;rw[zU n x 0 0 d (by omega)];have:max (0:Int) (0+fh n x)=fh n x:=by omega
  rw[this]
 ·rw[if_neg a,if_neg a]
theorem dD(n:Nat)(x:Tm n)(B:Nat)(w:World)(c:In B w n x)(a:B<=w.heap.size)(b:(aw n x).length<=2097152):am 51 #[dj n x] w λe w'=>e=.returned (ab (bu n x))/\aj w w':=by
 rw[<-gf];exact Bw n x B w c a b
end Go.Proofs.YtckamaoibonjcaaGreat
