/- What is proved here: plain facts and contracts that the claimed theorem stands on. No condition but those that each names. -/
import Derived.Test.YtckamaoibonjcaaGreatG04
import Derived.Deep.RegionHeld3
import Derived.Deep.DrawnRows
namespace Go.Proofs.YtckamaoibonjcaaGreat
open Go.RowKit
set_option maxHeartbeats 400000
def bV(P:Nat->Prop):(n:Nat)->Tm n->Prop
 | 0,_=>False
 | n+1,x=>x.2.2=[]\/∃b o,x.2.1.1=some ⟨b,o,none⟩/\P b/\∀(i:Nat)(y:Tm n),x.2.2[i]?=some y->bV P n y
theorem bV.mono{P Q:Nat->Prop}(a:∀b,P b->Q b):{n:Nat}->{x:Tm n}->bV P n x->bV Q n x
 | 0,_,k=>k
 | _+1,_,k=>by
  rcases k with k|⟨b,o,e,c,k⟩
  ·exact ae k
  ·exact af ⟨b,o,e,a b c,λi y d=>(k i y d).mono a⟩
theorem bk{w w':World}{b:Nat}(a:w'.heap[b]?=w.heap[b]?)(o:Nat):w'.cell? ⟨b,o,none⟩=w.cell? ⟨b,o,none⟩:=by
 simp[World.cell?,a]
theorem dA.block{w w':World}{b o:Nat}(a:w'.heap[b]?=w.heap[b]?):{n:Nat}->{x:Tm n}->dA w b o n x->dA w' b o n x
 | 0,_,k=>k
 | _+1,_,k=>by
  obtain⟨c,d,e,f⟩:=k;exact⟨(bk a _).trans c,(bk a _).trans d,(bk a _).trans e,(bk a _).trans f⟩
theorem In.off{P:Nat->Prop}{w w':World}(f:∀b,P b->w'.heap[b]?=w.heap[b]?){B:Nat}:{n:Nat}->{x:Tm n}->bV P n x->In B w n x->In B w' n x
 | 0,_,_,k=>k
 | _+1,_,p,k=>by
  obtain⟨m,a⟩:=k;refine⟨m,?_⟩;rcases a with a|⟨b,o,e,j,a⟩
  ·exact ae a
  ·rcases p with p|⟨q,r,c,l,p⟩
   ·exact ae p
   ·rw[e]at c;injection c with c;injection c with g h;subst g h;exact af ⟨b,o,e,j,λi y d=>⟨(a i y d).1.block (f b l),(a i y d).2.off f (p i y d)⟩⟩
theorem In.offB{P:Nat->Prop}{B:Nat}{w:World}:{n:Nat}->{x:Tm n}->bV P n x->In B w n x->bV (λb=>P b/\b<B) n x
 | 0,_,p,_=>p
 | _+1,_,p,k=>by
  obtain⟨_,a⟩:=k;rcases p with p|⟨b,o,e,h,p⟩
  ·exact ae p
  ·rcases a with a|⟨l,m,c,j,a⟩
   ·exact ae a
   ·rw[e]at c;injection c with c;injection c with f g;subst f g;exact af ⟨b,o,e,⟨h,j⟩,λi y d=>In.offB (p i y d) (a i y d).2⟩
def fX:(n:Nat)->Tm n->Nd
 | 0,_=>((0,0,⟨#[]⟩),(none,0,0))
 | n+1,x=>bu n x
theorem KS{w:World}{base g c L:Nat}{n:Nat}{l:List (Tm (n+1))}(a:w.ownsRow base 30 4 (.slice (some ⟨g,0,none⟩) L c) L (ci (l.map (fX (n+1)))))(k:Nat)(x:Tm (n+1))(d:l[k]?=some x):dA w g (0+k*4) (n+1) x:=by
 have b:=CU a k (fX (n+1) x) (by simp[d]);rw[cO];exact b
def qi(base:Nat)(n:Nat)(l:List (Tm n))(v:Value)(w:World):Prop:=
 w.ownsRow base 30 4 v l.length (ci (l.map (fX n)))/\∀a∈l,In w.heap.size w n a/\bV (λb=>base<=b/\v.ownBlock≠some b) n a
theorem qi.tup{base n:Nat}{l:List (Tm (n+1))}{v:Value}{w:World}(m:qi base (n+1) l v w):∃a c,v=.slice a l.length c/\bV (λb=>base<=b) (n+2) ((4,0,⟨#[]⟩),(a,c),l)/\In w.heap.size w (n+2) ((4,0,⟨#[]⟩),(a,c),l):=by
 obtain⟨i,j⟩:=m;have d:dj 4/\dj 0/\(⟨#[]⟩:ByteArray).size<=maxLen:=⟨⟨by omega,by omega⟩,⟨by omega,by omega⟩,aB _⟩;have e:=i;obtain⟨y,e⟩:=e;rcases e with⟨e,o⟩|⟨f,cap,x,rfl,r,s,q,u,A,z⟩
 ·have:l=[]:=bD o;subst this;refine⟨none,0,by rw[e];rfl,ae rfl,⟨d.1,d.2.1,d.2.2,aB _,aB _⟩,ae rfl⟩
 ·have t:f<w.heap.size:=(aA.1 s).1;refine⟨some ⟨f,0,none⟩,cap,rfl,af ⟨f,0,rfl,r,λk h g=>((j h (aC g)).2).mono λb p=>p.1⟩,⟨d.1,d.2.1,d.2.2,q,u⟩,af ⟨f,0,rfl,t,λk h g=>⟨KS i k h g,(j h (aC g)).1⟩⟩⟩
def sr(a:An):Nd:=fX a.1 a.2
def fL(l:List An):List Value:=ci (l.map sr)
theorem kv(l:List An):(fL l).length=l.length*4:=by simp[fL,nD]
theorem zr(l:List An):∀a∈fL l,a.oneCell'=true:=sw _
def mx(base:Nat)(g c:Nat)(b:List An)(w:World):Prop:=w.ownsRow base 30 4 (.slice (some ⟨g,0,none⟩) b.length c) b.length (fL b)
theorem mx.cells{base g c:Nat}{b:List An}{w:World}(a:mx base g c b w)(i:Nat)(y:An)(d:b[i]?=some y):w.cell? ⟨g,i*4,none⟩=some (.int .i64 (sr y).1.1)/\w.cell? ⟨g,i*4+1,none⟩=some (.int .i64 (sr y).1.2.1)/\w.cell? ⟨g,i*4+2,none⟩=some (.string (sr y).1.2.2)/\w.cell? ⟨g,i*4+3,none⟩=some (.slice (sr y).2.1 (sr y).2.2.1 (sr y).2.2.2):=
 CU (l:=b.map sr) a i (sr y) (by simp[d])
theorem mx.lt{base g c:Nat}{b:List An}{w:World}(a:mx base g c b w):base<=g/\g<w.heap.size:=World.ownsRow.lt a g rfl
theorem mx.kept{base g c:Nat}{b:List An}{w w':World}(d:mx base g c b w){row:Option Nat}(e:w.grownBy w' row)(f:row≠some g):mx base g c b w':=
 oO d e (af λa=>f a.symm)
theorem cG{w w':World}(a:ag w w')(row:Option Nat):w.grownBy w' row:=⟨a.os,a.tape,a.output,a.size,λk b _=>a.block k b⟩
theorem mx.below{base g c:Nat}{b:List An}{w w':World}(a:mx base g c b w)(d:ag w w'):mx base g c b w':=a.kept (cG d none) (by simp)
theorem nz{w w':World}{g B:Nat}(a:w.grownBy w' (some g))(b:B<=g)(c:g<w.heap.size):Below B w w':=⟨a.os,a.tape,a.output,a.size,λk d=>a.block k (by omega) (by simp;omega)⟩
theorem kT{w w1 w2:World}{row:Option Nat}(a:w.grownBy w1 row)(k:w1.grownBy w2 row):w.grownBy w2 row:=
 ⟨k.os.trans a.os,k.tape.trans a.tape,k.output.trans a.output,av a.size k.size,λb c d=>(k.block b (aJ c a.size) d).trans (a.block b c d)⟩
theorem mx.free{base g c:Nat}{b:List An}{w:World}(e:mx base g c b w)(j:Nat):w.frozen? ⟨g,j,none⟩=false:=by
 obtain⟨n,d⟩:=e;rcases d with⟨d,_⟩|⟨m,cap,i,h,q,f,o,r,s,p⟩
 ·simp at d
 ·injection h with a k l;injection a with a;injection a with a _;subst a;simp[World.frozen?,f]
def cF(w:World)(g o:Nat)(v0 v1 v2 v3:Value):World:=(((w.setCell ⟨g,o,none⟩ v0).setCell ⟨g,o+1,none⟩ v1).setCell ⟨g,o+2,none⟩ v2).setCell ⟨g,o+3,none⟩ v3
def iY(w:World)(g o:Nat)(x:Nd):World:=cF w g o (.int .i64 x.1.1) (.int .i64 x.1.2.1) (.string x.1.2.2) (.slice x.2.1 x.2.2.1 x.2.2.2)
theorem iS{w:World}{base e size g L c:Nat}{xs:List Value}(i:w.ownsRow base e size (.slice (some ⟨g,0,none⟩) L c) L xs)(j:Nat)(d:Value):(w.setCell ⟨g,j,none⟩ d).ownsRow base e size (.slice (some ⟨g,0,none⟩) L c) L (xs.set j d):=by
 obtain⟨k,b⟩:=i;refine⟨by simpa using k,?_⟩;rcases b with⟨b,_⟩|⟨t,cap,f,q,n,o,l,p,r,m⟩
 ·simp at b
 ·injection q with a s h;injection a with a;injection a with a _;subst a h;refine af ⟨g,c,f.setIfInBounds j d,rfl,n,?_,l,p,by simpa using r,?_⟩
  ·simp[World.setCell,bC,o]
  ·rw[<-m];simp[List.take_set]
theorem sx:(l:List Nd)->(i:Nat)->(x:Nd)->i<l.length-> ((((ci l).set (i*4) (.int .i64 x.1.1)).set (i*4+1) (.int .i64 x.1.2.1)).set (i*4+2) (.string x.1.2.2)).set (i*4+3) (.slice x.2.1 x.2.2.1 x.2.2.2)=ci (l.set i x)
 | [],i,x,h=>by simp at h
 | y::l,0,x,_=>by simp[ci,uB]
 | y::l,i+1,x,h=>by
  have ih:=sx l i x (by simpa using h);have e:ci (y::l)=uB y++ci l:=rfl;have b:ci ((y::l).set (i+1) x)=uB y++ci (l.set i x):=rfl;have a:(uB y).length=4:=rfl;rw[e,b,<-ih];rw[hU _ _ (by rw[a];omega),hU _ _ (by rw[a];omega),hU _ _ (by rw[a];omega),hU _ _ (by rw[a];omega),a];rw[show (i+1)*4-4=i*4 by omega,show (i+1)*4+1-4=i*4+1 by omega,show (i+1)*4+2-4=i*4+2 by omega,show (i+1)*4+3-4=i*4+3 by omega]
theorem mx.put{base g c:Nat}{b:List An}{w:World}(d:mx base g c b w)(i:Nat)(t:An)(e:i<b.length):mx base g c (b.set i t) (iY w g (i*4) (sr t)):=by
 have a:=iS (iS (iS (iS d (i*4) (.int .i64 (sr t).1.1)) (i*4+1) (.int .i64 (sr t).1.2.1)) (i*4+2) (.string (sr t).1.2.2)) (i*4+3) (.slice (sr t).2.1 (sr t).2.2.1 (sr t).2.2.2);unfold fL at a;rw[sx (b.map sr) i (sr t) (by simpa using e)]at a;unfold mx fL;rw[List.map_set,List.length_set];exact a
theorem aR{w:World}{g b o:Nat}(c:b≠g)(v0 v1 v2 v3:Value):(cF w g o v0 v1 v2 v3).heap[b]?=w.heap[b]? :=by
 have d:g≠b:=λa=>c a.symm;simp[cF,World.setCell,bC,d]
theorem bf{w:World}{g o:Nat}(v0 v1 v2 v3:Value):(cF w g o v0 v1 v2 v3).heap.size=w.heap.size:=by simp[cF,World.setCell]
theorem C4{w:World}{g o:Nat}(v0 v1 v2 v3:Value):w.grownBy (cF w g o v0 v1 v2 v3) (some g):=
 ⟨rfl,rfl,rfl,dn (bf _ _ _ _).symm,λk _ b=>aR (λa=>b (by rw[a])) _ _ _ _⟩
theorem DQ{w w':World}{v0 v1 v2 v3:Value}{t:TypeId}(c:Below (w.alloc (.cells #[v0,v1,v2,v3] t)).heap.size (w.alloc (.cells #[v0,v1,v2,v3] t)) w'):(w'.cell? ⟨w.heap.size,0,none⟩=some v0/\w'.cell? ⟨w.heap.size,1,none⟩=some v1/\w'.cell? ⟨w.heap.size,2,none⟩=some v2/\w'.cell? ⟨w.heap.size,3,none⟩=some v3)/\ (w'.frozen? ⟨w.heap.size,0,none⟩=false/\w'.frozen? ⟨w.heap.size,1,none⟩=false/\w'.frozen? ⟨w.heap.size,2,none⟩=false/\w'.frozen? ⟨w.heap.size,3,none⟩=false):=by
 have a:=λo=>c.cell (p:=⟨w.heap.size,o,none⟩) (by simp);have b:=λo=>c.frozen (p:=⟨w.heap.size,o,none⟩) (by simp);exact⟨⟨(a 0).trans (by simp[go_sem]),(a 1).trans (by simp[go_sem]),(a 2).trans (by simp[go_sem]),(a 3).trans (by simp[go_sem])⟩,(b 0).trans (by simp[go_sem]),(b 1).trans (by simp[go_sem]),(b 2).trans (by simp[go_sem]),(b 3).trans (by simp[go_sem])⟩
theorem nt{w1 w2:World}{q:Nat}{c d e f:Value}(b:q<w1.heap.size)(l:ag w1 w2)(k:w1.cell? ⟨q,0,none⟩=some c/\w1.cell? ⟨q,1,none⟩=some d/\w1.cell? ⟨q,2,none⟩=some e/\w1.cell? ⟨q,3,none⟩=some f):w2.cell? ⟨q,0,none⟩=some c/\w2.cell? ⟨q,1,none⟩=some d/\w2.cell? ⟨q,2,none⟩=some e/\w2.cell? ⟨q,3,none⟩=some f:=by
 obtain⟨g,h,i,j⟩:=k;have a:=am l;exact⟨(a _ _ b).trans g,(a _ _ b).trans h,(a _ _ b).trans i,(a _ _ b).trans j⟩
def eq(base g c:Nat)(o:Option (List An))(w:World)(e:Ending)(w':World):Prop:=
 e=.returned (.bool o.isSome)/\w.grownBy w' (some g)/\∀b,o=some b->mx base g c b w'
def BP(B:Nat)(w:World)(b:List An):Prop:=b.length=4/\∀y∈b,EH B w y/\aw y
theorem EH.below{B:Nat}{w w':World}(a:Below B w w'){x:An}(k:EH B w x):EH B w' x:=In.below a k
theorem BP.below{B:Nat}{w w':World}(c:Below B w w'){b:List An}(k:BP B w b):BP B w' b:=⟨k.1,λy a=>⟨(k.2 y a).1.below c,(k.2 y a).2⟩⟩
theorem BP.fit{B:Nat}{w:World}{b a:List An}(k:BP B w b){n m:Nat}{p:Tm n}{t:Tm m}(f:In B w m t)(e:aw ⟨m,t⟩)(d:gM n p m t b=some a):BP B w a:=
 ky (λc=>EH B w c/\aw c) (F4 (I8 B w) aN) n p m t ⟨f,e⟩ b a k d
def Mj(n:Nat):Prop:=∀(p:Tm n)(m:Nat)(t:Tm m)(b:List An)(base g c B:Nat)(w:World),In B w n p->In B w m t->aw ⟨n,p⟩->aw ⟨m,t⟩->BP B w b->B<=base->mx base g c b w->
 ah 160 #[.slice (some ⟨g,0,none⟩) 4 c,df n p,df m t] w (eq base g c (gM n p m t b) w)
theorem tQ(x y:Int)(w:World):ah 178 #[.int .i64 x,.int .i64 y] w λe w'=>e=.returned (.int .i64 (nv x y))/\w'=w:=by
 go_enter Tryz.func178,Tryz.ntmps178;go_wp2
 all_goals go_ret
 all_goals refine⟨iQ ?_,rfl⟩
 all_goals unfold nv
 all_goals (repeat' split)<;>omega
theorem Hq(x y:ByteArray)(w:World):ah 179 #[.string x,.string y] w λe w'=>e=.returned (.int .i64 (vq x y))/\w'=w:=by
 go_enter Tryz.func179,Tryz.ntmps179;go_wp2
 all_goals go_ret
 all_goals refine⟨iQ ?_,rfl⟩
 all_goals unfold vq
 all_goals simp[*]
attribute [local go_sem ↓] Go.wp_at_zero Go.wp_at_succ
def F5(n:Nat):Prop:=∀(x:Tm n)(m:Nat)(y:Tm m)(B:Nat)(w:World),In B w n x->In B w m y->B<=w.heap.size->
 ah 173 #[df n x,df m y] w λe w'=>e=.returned (.int .i64 (ww n x m y))/\ag w w'
theorem Ks(p q:Nat)(a c:Option Addr)(pc d:Nat)(w:World)(_hpc:p<=9223372036854775807)(_hqc:q<=9223372036854775807)(b:((p:Int)==(q:Int))=false):ah 180 #[.slice a p pc,.slice c q d] w λe w'=>e=.returned (.int .i64 (nv p q))/\w'=w:=by
 have f:((p:Int) !=(q:Int))=true:=by simpa using b
 go_enter Tryz.func180,Tryz.ntmps180;go_wp2_with (go_at_call 178;refine(tQ _ _ _).mono ?_;rintro e w' ⟨rfl,rfl⟩)
 go_ret
 exact⟨rfl,rfl⟩
theorem Kr(n m:Nat)(ih:F5 n)(p:List (Tm n))(q:List (Tm m))(len:Nat)(M:Hid (p.length=len))(V:Hid (q.length=len))(g po h l pc X:Nat)(B:Nat)(w:World)(ae:len<=9223372036854775807)(T:g<B)(U:h<B)(L:∀(i:Nat)(y:Tm n),p[i]?=some y->dA w g (po+i*4) n y/\In B w n y)(N:∀(i:Nat)(y:Tm m),q[i]?=some y->dA w h (l+i*4) m y/\In B w m y)(o:B<=w.heap.size):ah 180 #[.slice (some ⟨g,po,none⟩) len pc,.slice (some ⟨h,l,none⟩) len X] w λe w'=> e=.returned (.int .i64 (oU (λa b=>ww n a m b) p q))/\ag w w':=by
 go_enter Tryz.func180,Tryz.ntmps180;go_wp2_with fail;go_loopw [19] (λi wr=>∃k:Nat,k<=len/\i=.int .i64 k/\ag w wr/\Hid (oU (λa b=>ww n a m b) (p.drop k) (q.drop k)=oU (λa b=>ww n a m b) p q)) (λi _=>len-(intOf i).toNat)
 case atStart=>exact⟨0,by omega,rfl,ak _ _,rfl⟩
 case round=>
  obtain⟨k,aa,rfl,f,z⟩:=hrel;by_cases K:k<len
  ·obtain⟨c,A⟩:∃c,p[k]?=some c:=⟨p[k]'(by rw[M.out];exact K),aD _⟩;obtain⟨y,C⟩:∃y,q[k]?=some y:=⟨q[k]'(by rw[V.out];exact K),aD _⟩;obtain⟨s,t⟩:=L k c A;obtain⟨u,v⟩:=N k y C;have E:Hid (oU (λa b=>ww n a m b) (p.drop k) (q.drop k)=if ww n c m y=0 then oU (λa b=>ww n a m b) (p.drop (k+1)) (q.drop (k+1))else ww n c m y):=FV (λa b=>ww n a m b) p q k c y A C;replace s:=s.below (f.mono o) T;replace u:=u.below (f.mono o) U;replace t:=t.below (f.mono o);replace v:=v.below (f.mono o);clear L N A C;cases n with
   | zero=>exact s.elim
   | succ n=>
   cases m with
   | zero=>exact u.elim
   | succ m=>
   obtain⟨al,an,ao,ap⟩:=s;obtain⟨y0,y1,y2,aq⟩:=u;have J:∀(d:World),In B d (n+1) c->In B d (m+1) y->B<=d.heap.size->ah 173 #[.agg #[.int .i64 c.1.1,.int .i64 c.1.2.1,.string c.1.2.2,.slice c.2.1.1 c.2.2.length c.2.1.2],.agg #[.int .i64 y.1.1,.int .i64 y.1.2.1,.string y.1.2.2,.slice y.2.1.1 y.2.2.length y.2.1.2]] d λe w'=>e=.returned (.int .i64 (ww (n+1) c (m+1) y))/\ag d w':=λd P Q R=>ih c (m+1) y B d P Q R;have D:=aj J;clear J ih;have F:=aj t;have G:=aj v;clear t v;generalize ww (n+1) c (m+1) y=r at*;generalize c.2.2.length=Y at*;generalize y.2.2.length=yl at*;have ab:(0:Int)<=(k:Int):=by omega
   have ad:(k:Int)<(len:Int):=by omega
   have S:B<=wr.heap.size:=av o f.size;have O:=aj (D.out wr.drew (F.out.below (ak _ _).drew) (G.out.below (ak _ _).drew) S);have af:g<wr.heap.size:=by omega
   have ai:h<wr.heap.size:=by omega
   clear D F G;go_wp2_with fail
   go_region_held3 (λw'=>w'.cell? ⟨g,po+k*4,none⟩=some (.int .i64 c.1.1)/\w'.cell? ⟨g,po+k*4+1,none⟩=some (.int .i64 c.1.2.1)/\w'.cell? ⟨g,po+k*4+2,none⟩=some (.string c.1.2.2)/\w'.cell? ⟨g,po+k*4+3,none⟩=some (.slice c.2.1.1 Y c.2.1.2)
       /\w'.cell? ⟨h,l+k*4,none⟩=some (.int .i64 y.1.1)/\w'.cell? ⟨h,l+k*4+1,none⟩=some (.int .i64 y.1.2.1)/\w'.cell? ⟨h,l+k*4+2,none⟩=some (.string y.1.2.2)/\w'.cell? ⟨h,l+k*4+3,none⟩=some (.slice y.2.1.1 yl y.2.1.2))
    (go_keep) ((go_at_call 173;refine O.out.mono ?_;rintro e d ⟨rfl,H⟩;have Z:=am (cB H)))
   have I:ag w d:=f.trans ((cB H).mono f.size);by_cases j:r=0
   ·have x:Hid (r=0):=j;have W:(r !=0)=false:=by rw[j];rfl
    clear j;go_wp2_with fail;go_roundw
    case rel=>exact⟨k+1,by omega,by go_num,I,by rw[<-z.out,E.out,if_pos x.out];rfl⟩
    case measure=>simp[intOf];omega
   ·have x:Hid (¬r=0):=j;have W:(r !=0)=true:=by simpa using j
    clear j;go_wp2_with fail
    go_ret
    exact⟨iQ (by rw[<-z.out,E.out,if_neg x.out]),I⟩
  ·go_wp2_with fail
   go_ret
   refine⟨iQ ?_,f⟩;rw[<-z.out,jf (by rw[M.out];omega)];rfl
theorem zw(n m:Nat)(a c:Option Addr)(pc d:Nat)(w:World):ah 180 #[.slice a ([]:List (Tm n)).length pc,.slice c ([]:List (Tm m)).length d] w λe w'=>e=.returned (.int .i64 (oU (λa b=>ww n a m b) [] []))/\ag w w':=by
 show ah 180 #[.slice a 0 pc,.slice c 0 d] w λe w'=>e=.returned (.int .i64 0)/\ag w w';go_enter Tryz.func180,Tryz.ntmps180;go_wp2_with fail
 go_loop [19] (λf=>f=.int .i64 0) (λ_=>0)
 case atStart=>rfl
 case round=>
  obtain rfl:=hrel;go_wp2_with fail
  go_ret
  exact⟨rfl,ak _ _⟩
theorem CT(w:World)(k b h i:Int)(s g:ByteArray)(a c:Option Addr)(pl f pc d:Nat)(e:¬k=b):ah 173 #[.agg #[.int .i64 k,.int .i64 h,.string s,.slice a pl pc],.agg #[.int .i64 b,.int .i64 i,.string g,.slice c f d]] w λe w'=>e=.returned (.int .i64 (nv k b))/\ag w w':=by
 have j:(k !=b)=true:=by simpa using e
 clear e;go_enter Tryz.func173,Tryz.ntmps173;go_wp2_with (go_at_call 178;refine(tQ _ _ _).mono ?_;rintro e w' ⟨rfl,rfl⟩)
 go_ret
 exact⟨rfl,((ak _ _).alloc (ai _) _).alloc (by simp) _⟩
theorem rK(w:World)(k d f:Int)(s c:ByteArray)(a g:Option Addr)(pl i pc h:Nat)(r:Int)(b:k=1\/k=3\/k=5):ah 173 #[.agg #[.int .i64 k,.int .i64 d,.string s,.slice a pl pc],.agg #[.int .i64 k,.int .i64 f,.string c,.slice g i h]] w λe w'=>e=.returned (.int .i64 (if k=1\/k=3\/k=5 then nv d f else if k=2 then vq s c else if k=4 then r else 0))/\ag w w':=by
 rw[if_pos b];rcases b with rfl|rfl|rfl
 all_goals
  go_enter Tryz.func173,Tryz.ntmps173;go_wp2_with (go_at_call 178;refine(tQ _ _ _).mono ?_;rintro e w' ⟨rfl,rfl⟩)
  go_ret
  exact⟨rfl,((ak _ _).alloc (ai _) _).alloc (by simp) _⟩
theorem FX(w:World)(g h:Int)(s b:ByteArray)(a c:Option Addr)(pl f pc d:Nat):ah 173 #[.agg #[.int .i64 2,.int .i64 g,.string s,.slice a pl pc],.agg #[.int .i64 2,.int .i64 h,.string b,.slice c f d]] w λe w'=>e=.returned (.int .i64 (vq s b))/\ag w w':=by
 go_enter Tryz.func173,Tryz.ntmps173;go_wp2_with (go_at_call 179;refine(Hq _ _ _).mono ?_;rintro e w' ⟨rfl,rfl⟩)
 go_ret
 exact⟨rfl,((ak _ _).alloc (ai _) _).alloc (by simp) _⟩
theorem CS(w:World)(k m n:Int)(s l:ByteArray)(a h:Option Addr)(pl j pc i:Nat)(b:¬k=1)(c:¬k=2)(d:¬k=3)(f:¬k=4)(g:¬k=5):ah 173 #[.agg #[.int .i64 k,.int .i64 m,.string s,.slice a pl pc],.agg #[.int .i64 k,.int .i64 n,.string l,.slice h j i]] w λe w'=>e=.returned (.int .i64 0)/\ag w w':=by
 have o:(k==1)=false:=by simpa using b
 have p:(k==2)=false:=by simpa using c
 have q:(k==3)=false:=by simpa using d
 have r:(k==4)=false:=by simpa using f
 have t:(k==5)=false:=by simpa using g
 clear b c d f g;go_enter Tryz.func173,Tryz.ntmps173;go_wp2_with fail
 go_ret
 exact⟨rfl,((ak _ _).alloc (ai _) _).alloc (by simp) _⟩
theorem FY(w:World)(j k:Int)(s i:ByteArray)(a b:Option Addr)(pl f pc d:Nat)(r:Int)(c:∀w1:World,ag w w1->ah 180 #[.slice a pl pc,.slice b f d] w1 λe w'=>e=.returned (.int .i64 r)/\ag w1 w'):ah 173 #[.agg #[.int .i64 4,.int .i64 j,.string s,.slice a pl pc],.agg #[.int .i64 4,.int .i64 k,.string i,.slice b f d]] w λe w'=>e=.returned (.int .i64 r)/\ag w w':=by
 have g:=aj c;clear c;go_enter Tryz.func173,Tryz.ntmps173;go_wp2_with fail;refine(g.out _ (((ak _ _).alloc (ai _) _).alloc (by simp) _)).mono ?_;rintro e w' ⟨rfl,h⟩;go_wp2_with fail
 go_ret
 exact⟨rfl,(((ak _ _).alloc (ai _) _).alloc (by simp) _).trans (h.mono (by simp;omega))⟩
theorem FW(n:Nat):F5 n:=by
 induction n with
 | zero=>intro U h t H g G;exact G.elim
 | succ n ih=>
  intro U h t H g G r w;cases h with
  | zero=>exact r.elim
  | succ h=>
  obtain⟨⟨k,l,i⟩,⟨a,pc⟩,c⟩:=U;obtain⟨⟨z,m,j⟩,⟨f,e⟩,d⟩:=t;obtain⟨⟨M,Y,S,P,E⟩,p⟩:=G;obtain⟨⟨N,Z,T,R,F⟩,q⟩:=r;simp only at M Y S P E p N Z T R F q
  show ah 173 #[.agg #[.int .i64 k,.int .i64 l,.string i,.slice a c.length pc],.agg #[.int .i64 z,.int .i64 m,.string j,.slice f d.length e]] g λo B=>o=.returned (.int .i64 (if k=z then
   if k=1\/k=3\/k=5 then nv l m else if k=2 then vq i j else if k=4 then if c.length=d.length then oU (λa b=>ww n a h b) c d else nv c.length d.length
   else 0 else nv k z))/\ag g B
  have V:∀s:World,ag g s->ah 180 #[.slice a c.length pc,.slice f d.length e] s λo B=>o=.returned (.int .i64 (if c.length=d.length then oU (λa b=>ww n a h b) c d else nv c.length d.length))/\ag s B:=by
   intro s x;unfold maxLen at E F;by_cases u:c.length=d.length
   ·rw[if_pos u];rcases p with p|⟨aa,po,rfl,O,p⟩
    ·subst p;have X:d=[]:=bD u.symm;subst X;exact zw n h a f pc e s
    ·rcases q with q|⟨ab,ad,rfl,Q,q⟩
     ·subst q;have W:c=[]:=bD u;subst W;exact zw n h _ f pc e s
     ·have L:=Kr n h ih c d c.length rfl u.symm aa po ab ad pc e H s (by omega) O Q (λy t r=>⟨(p y t r).1.below (x.mono w) O,(p y t r).2.below (x.mono w)⟩)
        (λy t r=>⟨(q y t r).1.below (x.mono w) Q,(q y t r).2.below (x.mono w)⟩) (av w x.size)
      rw[u]at L;rw[u];exact L
   ·rw[if_neg u];refine(Ks c.length d.length a f pc e s (by omega) (by omega) (by simp;omega)).mono ?_;rintro o B ⟨rfl,rfl⟩;exact⟨rfl,ak _ _⟩
  generalize (if c.length=d.length then oU (λa b=>ww n a h b) c d else nv c.length d.length)=A at*;clear p q ih P E R F S T w;generalize c.length=pl at*;generalize d.length=v at*;obtain⟨ai,al⟩:=M;obtain⟨aj,am⟩:=N;by_cases o:k=z
  ·subst o;rw[if_pos rfl];by_cases I:k=1
   ·subst I;exact rK g 1 l m i j a f pl v pc e A (ae rfl)
   by_cases J:k=3
   ·subst J;exact rK g 3 l m i j a f pl v pc e A (af (ae rfl))
   by_cases K:k=5
   ·subst K;exact rK g 5 l m i j a f pl v pc e A (af (af rfl))
   rw[if_neg (by omega)];by_cases C:k=2
   ·subst C;exact FX g l m i j a f pl v pc e
   rw[if_neg C];by_cases D:k=4
   ·subst D;exact FY g l m i j a f pl v pc e A V
   rw[if_neg D];exact CS g k l m i j a f pl v pc e I C J D K
  ·rw[if_neg o];exact CT g k z l m i j a f pl v pc e o
theorem iV(k b:Int)(s:ByteArray)(a:Option Addr)(l c:Nat)(w:World):ah 170 #[.agg #[.int .i64 k,.int .i64 b,.string s,.slice a l c]] w λe w'=>e=.returned (.bool (!(k==6)))/\ag w w':=by
 cases h:k==6
 all_goals
  go_enter Tryz.func170,Tryz.ntmps170;go_wp2_with fail
  go_ret
  exact⟨fx (by simp[bne,h]),(ak _ _).alloc (ai _) _⟩
theorem AS(x:An)(y:An)(B:Nat)(w:World)(d:EH B w x)(f:EH B w y)(b:B<=w.heap.size)(g:aw x)(h:aw y):ah 173 #[df x.1 x.2,df y.1 y.2] w λe w'=>∃r,e=.returned (.int .i64 r)/\Hid ((r==0)=dP x y)/\ag w w':=by
 refine(FW x.1 x.2 y.1 y.2 B w d f b).mono ?_;rintro e w' ⟨rfl,c⟩;refine⟨_,rfl,?_,c⟩;have a:=AR x.1 x.2 y.1 y.2 g h;unfold Hid dP;cases hs:au x.1 x.2 y.1 y.2
 ·rw[hs]at a;simp only[oA,iff_false]at a;simpa using a
 ·rw[hs]at a;simp only[iff_true]at a;simpa using a
theorem Iu(b:List An)(base g c B:Nat)(w:World)(k:Nat)(K:k<4)(m:Nat)(t:Tm (m+1))(y:BP B w b)(M:In B w (m+1) t)(L:aw ⟨m+1,t⟩)(Y:B<=base)(H:mx base g c b w):ah 171 #[.slice (some ⟨g,0,none⟩) 4 c,.int .i64 k,.agg #[.int .i64 t.1.1,.int .i64 t.1.2.1,.string t.1.2.2,.slice t.2.1.1 t.2.2.length t.2.1.2]] w (eq base g c (tY b k ⟨m+1,t⟩) w):=by
 obtain⟨a,v⟩:∃a,b[k]?=some a:=⟨b[k]'(by rw[y.1];exact K),aD _⟩;obtain⟨E,N⟩:=y.2 a (aC v);obtain⟨n,a⟩:=a;cases n with
 | zero=>exact E.elim
 | succ n=>
 have D:Hid (tY b k ⟨m+1,t⟩=if a.1.1=6 then some (b.set k ⟨m+1,t⟩)else if dP ⟨n+1,a⟩ ⟨m+1,t⟩then some b else none):=by simp only[Hid,tY,v,bK];rfl
 obtain⟨j,l,p,q⟩:=H.cells k _ v;simp only[sr,fX,bu]at j l p q;have ae:(0:Int)<=(k:Int):=by omega
 have af:(k:Int)<4:=by omega
 have A:=aj H;have I:=aj v;have R:g<w.heap.size:=H.lt.2;clear v H;generalize tY b k ⟨m+1,t⟩=o at*;cases h6:a.1.1==6
 case true=>
  go_enter Tryz.func171,Tryz.ntmps171;go_wp2_with fail;refine(iV _ _ _ _ _ _ _).mono ?_;rintro h e ⟨rfl,d⟩;have f:=aj d;clear j l p q;have r:Hid (mx base g c b e):=(A.out.kept (cV w _ none) (by simp)).below d;have aa:=λS=>r.out.free S;obtain⟨⟨U,V,W,X⟩,_⟩:=DQ d;obtain⟨j,l,p,q⟩:=r.out.cells k _ I.out;simp only[sr,fX,bu]at j l p q;clear d;go_wp2_with fail
  go_ret
  have s:o=some (b.set k ⟨m+1,t⟩):=by rw[D.out,if_pos (by simpa using h6)]
  subst s;exact⟨rfl,kT (cG (((ak _ _).alloc (ai _) _).trans (f.out.mono (by simp))) _) (C4 _ _ _ _),λJ h=>by obtain rfl:=ap h;exact r.out.put k ⟨m+1,t⟩ (by rw[y.1];exact K)⟩
 case false=>
  go_enter Tryz.func171,Tryz.ntmps171;go_wp2_with fail;refine(iV _ _ _ _ _ _ _).mono ?_;rintro h e ⟨rfl,d⟩;clear j l p q;have f:Hid (ag w e):=((ak _ _).alloc (ai _) _).trans (d.mono (by simp));have r:Hid (mx base g c b e):=(A.out.kept (cV w _ none) (by simp)).below d;obtain⟨⟨U,V,W,X⟩,_⟩:=DQ d;obtain⟨j,l,p,q⟩:=r.out.cells k _ I.out;simp only[sr,fX,bu]at j l p q;have z:Hid (B<=w.heap.size):=by have:=A.out.lt;unfold Hid;omega
  have P:Hid (w.heap.size<e.heap.size):=by have:=d.size;simp at this;unfold Hid;omega
  have F:Hid (EH B e ⟨n+1,a⟩/\EH B e ⟨m+1,t⟩):=⟨E.below (f.out.mono z.out),EH.below (x:=⟨m+1,t⟩) (f.out.mono z.out) M⟩;have Q:=aj (AS ⟨n+1,a⟩ ⟨m+1,t⟩ B e.drew (F.out.1.below (ak _ _).drew) (F.out.2.below (ak _ _).drew) (av z.out f.out.size) N L);clear d M E y N L;go_wp2_with fail
  go_region_held3 (λi=>i.cell? ⟨g,k*4,none⟩=some (.int .i64 a.1.1)/\i.cell? ⟨g,k*4+1,none⟩=some (.int .i64 a.1.2.1)/\i.cell? ⟨g,k*4+2,none⟩=some (.string a.1.2.2)/\i.cell? ⟨g,k*4+3,none⟩=some (.slice a.2.1.1 a.2.2.length a.2.1.2)
        /\i.cell? ⟨w.heap.size,0,none⟩=some (.int .i64 t.1.1)/\i.cell? ⟨w.heap.size,1,none⟩=some (.int .i64 t.1.2.1)/\i.cell? ⟨w.heap.size,2,none⟩=some (.string t.1.2.2)/\i.cell? ⟨w.heap.size,3,none⟩=some (.slice t.2.1.1 t.2.2.length t.2.1.2))
      (go_keep) ((go_at_call 173;refine Q.out.mono ?_;rintro h O ⟨T,rfl,G,u⟩;have Z:=am (cB u);have ab:g<e.heap.size:=aJ R f.out.size;have ad:w.heap.size<e.heap.size:=P.out))
  replace u:=cB u;have C:Hid (w.grownBy O (some g)/\mx base g c b O):=⟨cG (f.out.trans (u.mono f.out.size)) _,r.out.below u⟩;have s:o=if dP ⟨n+1,a⟩ ⟨m+1,t⟩then some b else none:=by rw[D.out,if_neg (by simpa using h6)]
  rw[<-G.out]at s;clear G D;cases h0:T==0
  all_goals
   rw[h0]at s;go_wp2_with fail
   go_ret
   simp only[oA,if_false,cE]at s;subst s
  ·exact⟨rfl,C.out.1,λJ h=>by cases h⟩
  ·exact⟨rfl,C.out.1,λJ h=>by obtain rfl:=ap h;exact C.out.2⟩
def Ju(x:Nd):Bool:= !(x.1.1==5) && !(x.1.1==6)
def jI(n:Nat)(x:Tm n):Bool:=(ar n x).all Ju
def aF:(n:Nat)->Tm n->Bool
 | 0,_=>true
 | n+1,x=> !(x.1.1==5) && !(x.1.1==6) && x.2.2.all λy=>aF n y
theorem eU:(n:Nat)->(x:Tm n)->aF n x=jI n x
 | 0,_=>by simp[aF,jI,ar,Ju]
 | n+1,x=>by
  have key:∀l:List (Tm n),(l.all λy=>aF n y)=(l.flatMap λy=>ar n y).all Ju:=by
   intro l
   induction l with
   | nil=>rfl
   | cons y l ih=>
    have:=eU n y;unfold jI at this;simp only[iK,bv,j0,ih,this]
  show (!(x.1.1==5) && !(x.1.1==6) && x.2.2.all λy=>aF n y)=(Ju (x.1,(x.2.1.1,x.2.2.length,x.2.1.2)) && (x.2.2.flatMap λy=>ar n y).all Ju);rw[key];rfl
def Nq(n:Nat):Prop:=∀(x:Tm n)(B:Nat)(w:World),In B w n x->B<=w.heap.size->
 ah 52 #[df n x] w λe w'=>e=.returned (.bool (aF n x))/\ag w w'
theorem zM(n:Nat)(ih:Nq n)(h I:Int)(s:ByteArray)(a:Option Addr)(pc len:Nat)(p:List (Tm n))(C:Hid (p.length=len))(B:Nat)(w:World)(g:Hid (p=[]\/∃b o,a=some ⟨b,o,none⟩/\b<B/\∀(i:Nat)(y:Tm n),p[i]?=some y->dA w b (o+i*4) n y/\In B w n y))(M:len<=9223372036854775807)(r:B<=w.heap.size):ah 52 #[.agg #[.int .i64 h,.int .i64 I,.string s,.slice a len pc]] w λe w'=>e=.returned (.bool (!(h==5) && !(h==6) && p.all λy=>aF n y))/\ag w w':=by
 cases h5:h==5
 case true=>
  go_enter Tryz.func52,Tryz.ntmps52;go_wp2_with fail
  go_ret
  exact⟨bH (by simp),(ak _ _).alloc (ai _) _⟩
 cases h6:h==6
 case true=>
  go_enter Tryz.func52,Tryz.ntmps52;go_wp2_with fail
  go_ret
  exact⟨bH (by simp),(ak _ _).alloc (ai _) _⟩
 have v:(!false && !false && p.all λy=>aF n y)=p.all λy=>aF n y:=by simp
 rw[v];clear v;go_enter Tryz.func52,Tryz.ntmps52;go_wp2_with fail;go_loopw [16] (λi wr=>∃k:Nat,k<=len/\i=.int .i64 k/\ag w wr/\Hid (((p.drop k).all λy=>aF n y)=p.all λy=>aF n y)) (λi _=>len-(intOf i).toNat)
 case atStart=>exact⟨0,by omega,rfl,(ak _ _).alloc (ai _) _,rfl⟩
 case round=>
  obtain⟨k,J,rfl,d,t⟩:=hrel;by_cases F:k<len
  ·obtain⟨c,l⟩:∃c,p[k]?=some c:=⟨p[k]'(by rw[C.out];exact F),aD _⟩;have u:Hid (((p.drop k).all λy=>aF n y)=(aF n c && (p.drop (k+1)).all λy=>aF n y)):=by
    obtain⟨j,E⟩:=aL.1 l;rw[eR j,E];rfl
   rcases g.out with g|⟨N,po,rfl,G,g⟩
   ·subst g;simp at l
   obtain⟨m,q⟩:=g k c l;replace m:=m.below (d.mono r) G;replace q:=q.below (d.mono r);clear g l;cases n with
   | zero=>exact m.elim
   | succ n=>
   obtain⟨O,P,Q,R⟩:=m;have x:B<=wr.heap.size:=av r d.size
   have D:Hid (∀f,ag wr f->ah 52 #[.agg #[.int .i64 c.1.1,.int .i64 c.1.2.1,.string c.1.2.2,.slice c.2.1.1 c.2.2.length c.2.1.2]] f λe w'=>e=.returned (.bool (aF (n+1) c))/\ag f w'):=
    λf j=>ih c B f (q.below (j.mono x)) (av x j.size)
   clear ih q;generalize c.2.2.length=S at*;generalize aF (n+1) c=H at*;have K:(0:Int)<=(k:Int):=by omega
   have L:(k:Int)<(len:Int):=by omega
   go_wp2_with fail;refine(D.out _ ((ak _ _).alloc (ai _) _)).mono ?_;rintro e f ⟨rfl,z⟩;have A:ag w f:=(d.trans (((ak _ _).alloc (ai _) _).mono d.size)).trans (z.mono (by have:=d.size;simp;omega));clear z;cases H with
   | true=>
    go_wp2_with fail;go_roundw
    case rel=>exact⟨k+1,by omega,by go_num,A,by rw[<-t.out,u.out];rfl⟩
    case measure=>simp[intOf];omega
   | false=>
    go_wp2_with fail
    go_ret
    exact⟨bH (by rw[<-t.out,u.out];rfl),A⟩
  ·go_wp2_with fail
   go_ret
   refine⟨bH ?_,d⟩;rw[<-t.out,jf (by rw[C.out];omega)];rfl
theorem io(n:Nat):Nq n:=by
 induction n with
 | zero=>intro g b f a;exact a.elim
 | succ n ih=>
  intro g b f a i;obtain⟨⟨k,m,l⟩,⟨h,pc⟩,e⟩:=g;obtain⟨⟨_,_,_,j,d⟩,c⟩:=a;simp only at j d c;unfold maxLen at d;exact zM n ih k m l h pc e.length e rfl b f c (by omega) i
def eX:(n:Nat)->Tm n->Int
 | 0,_=>0
 | n+1,x=>if x.1.1=4 then 1+x.2.2.foldl (λm y=>max m (eX n y)) 0 else 0
def sh(n:Nat)(p:List (Tm n))(k:Nat):Int:=(p.take k).foldl (λm y=>max m (eX n y)) 0
theorem Ce(n:Nat)(p:List (Tm n))(k:Nat)(x:Tm n)(b:p[k]?=some x):sh n p (k+1)=max (sh n p k) (eX n x):=by
 obtain⟨c,a⟩:=aL.1 b;unfold sh;rw[oJ c,a,mg];rfl
theorem pC{n:Nat}(N:Int):(l:List (Tm n))->(m:Int)->0<=m->m<=N->(∀y∈l,0<=eX n y/\eX n y<=N)->0<=l.foldl (λm y=>max m (eX n y)) m/\l.foldl (λm y=>max m (eX n y)) m<=N
 | [],_,h0,h1,_=>⟨h0,h1⟩
 | y::l,m,h0,h1,h=>by
  have c:=h y (by simp);exact pC N l (max m (eX n y)) (by omega) (by omega) (λb a=>h b (by simp[a]))
theorem jM{n:Nat}(l:List (Tm n))(y:Tm n)(c:y∈l):(ar n y).length<=(l.flatMap λy=>ar n y).length:=by
 obtain⟨a,d⟩:=cI c;have b:=EB (λy=>ar n y) l (a+1);rw[Gt _ l a y d,aY]at b;omega
theorem fN:(n:Nat)->(x:Tm n)->0<=eX n x/\eX n x<=(ar n x).length
 | 0,_=>by simp[eX]
 | n+1,x=>by
  have e:=pC ((x.2.2.flatMap λy=>ar n y).length:Int) x.2.2 0 (by omega) (by omega) (λy b=>by
   have c:=fN n y;have d:=jM x.2.2 y b
   omega)
  simp only[eX,ar,aV];by_cases a:x.1.1=4
  ·rw[if_pos a];omega
  ·rw[if_neg a];omega
theorem zS(n:Nat)(p:List (Tm n))(k:Nat):0<=sh n p k/\sh n p k<=(p.flatMap λy=>ar n y).length:=
 pC _ (p.take k) 0 (by omega) (by omega) (λy a=>by
  have b:=fN n y;have c:=jM p y (List.mem_of_mem_take a)
  omega)
def Nr(n:Nat):Prop:=∀(x:Tm n)(B:Nat)(w:World),In B w n x->B<=w.heap.size->(ar n x).length<=2097152->
 ah 80 #[df n x] w λe w'=>e=.returned (.int .i64 (eX n x))/\ag w w'
theorem Cf(b d:Int)(s:ByteArray)(a:Option Addr)(len pc:Nat)(w:World)(c:¬b=4):ah 80 #[.agg #[.int .i64 b,.int .i64 d,.string s,.slice a len pc]] w λe w'=>e=.returned (.int .i64 0)/\ag w w':=by
 have f:(b !=4)=true:=by simpa using c
 clear c;go_enter Tryz.func80,Tryz.ntmps80;go_wp2_with fail
 go_ret
 exact⟨rfl,(ak _ _).alloc (ai _) _⟩
theorem Fa(n:Nat)(ih:Nr n)(P:Int)(s:ByteArray)(a:Option Addr)(pc len:Nat)(p:List (Tm n))(E:Hid (p.length=len))(B:Nat)(w:World)(h:Hid (p=[]\/∃b o,a=some ⟨b,o,none⟩/\b<B/\∀(i:Nat)(y:Tm n),p[i]?=some y->dA w b (o+i*4) n y/\In B w n y))(T:len<=9223372036854775807)(u:B<=w.heap.size)(O:Hid (1+(p.flatMap λy=>ar n y).length<=2097152)):ah 80 #[.agg #[.int .i64 4,.int .i64 P,.string s,.slice a len pc]] w λe w'=> e=.returned (.int .i64 (1+p.foldl (λm y=>max m (eX n y)) 0))/\ag w w':=by
 go_enter Tryz.func80,Tryz.ntmps80;go_wp2_with fail;go_loopw [3,12] (λt i wr=>∃k:Nat,∃d:Int,k<=len/\i=.int .i64 k/\t=.int .i64 d/\Hid (d=sh n p k)/\ag w wr) (λ_ i _=>len-(intOf i).toNat)
 case atStart=>exact⟨0,0,by omega,rfl,rfl,by simp[Hid,sh],(ak _ _).alloc (ai _) _⟩
 case round=>
  obtain⟨k,d,Q,rfl,rfl,v,f⟩:=hrel;have r:=zS n p k;rw[<-v.out]at r;have K:=O.out;have V:0<=d:=r.1;have W:d<=2097152:=by omega
  clear r;by_cases M:k<len
  ·obtain⟨c,j⟩:∃c,p[k]?=some c:=⟨p[k]'(by rw[E.out];exact M),aD _⟩;have I:=aj (Ce n p k c j);have J:=jM p c (aC j);have F:(ar n c).length<=2097152:=by omega
   clear J K;rcases h.out with h|⟨U,po,rfl,N,h⟩
   ·subst h;simp at j
   obtain⟨l,q⟩:=h k c j;replace l:=l.below (f.mono u) N;replace q:=q.below (f.mono u);clear h j;cases n with
   | zero=>exact l.elim
   | succ n=>
   obtain⟨X,Y,Z,aa⟩:=l;have A:B<=wr.heap.size:=av u f.size
   have G:Hid (∀g,ag wr g->ah 80 #[.agg #[.int .i64 c.1.1,.int .i64 c.1.2.1,.string c.1.2.2,.slice c.2.1.1 c.2.2.length c.2.1.2]] g λe w'=>e=.returned (.int .i64 (eX (n+1) c))/\ag g w'):=
    λg z=>ih c B g (q.below (z.mono A)) (av A z.size) F
   clear ih q F;generalize c.2.2.length=ab at*;generalize eX (n+1) c=x at*;have R:(0:Int)<=(k:Int):=by omega
   have S:(k:Int)<(len:Int):=by omega
   go_wp2_with fail;refine(G.out _ ((ak _ _).alloc (ai _) _)).mono ?_;rintro e g ⟨rfl,C⟩;have L:ag w g:=(f.trans (((ak _ _).alloc (ai _) _).mono f.size)).trans (C.mono (by have:=f.size;simp;omega));clear C;have D:max d x=if d<x then x else d:=by split<;>omega
   have H:=aj D;clear D;go_wp2_with fail;go_roundw
   case rel=>exact⟨k+1,_,by omega,by go_num,rfl,by simp only[Hid];rw[I.out,<-v.out,H.out],L⟩
   case measure=>simp[intOf];omega
  ·go_wp2_with fail
   go_ret
   refine⟨iQ ?_,f⟩;rw[v.out];unfold sh;rw[bw (by rw[E.out];omega)]
theorem E9(n:Nat):Nr n:=by
 induction n with
 | zero=>intro o i b g;exact g.elim
 | succ n ih=>
  intro o i b g q m;obtain⟨⟨k,e,d⟩,⟨c,pc⟩,a⟩:=o;obtain⟨⟨_,_,_,s,l⟩,j⟩:=g;simp only at s l j;unfold maxLen at l;have r:(ar (n+1) ((k,e,d),(c,pc),a)).length=1+(a.flatMap λh=>ar n h).length:=by simp only[ar,aV];omega
  rw[r]at m;show ah 80 #[.agg #[.int .i64 k,.int .i64 e,.string d,.slice c a.length pc]] b λp u=>p=.returned (.int .i64 (if k=4 then 1+a.foldl (λt h=>max t (eX n h)) 0 else 0))/\ag b u;by_cases f:k=4
  ·subst f;exact Fa n ih e d c pc a.length a rfl i b j (by omega) q m
  ·rw[if_neg f];exact Cf k e d c a.length pc b f
def pd(n:Nat)(p:List (Tm n))(k:Nat):Int:=1+p.length+((p.take k).map λy=>sz n y).sum
theorem Dy(n:Nat)(p:List (Tm n))(k:Nat)(x:Tm n)(b:p[k]?=some x):pd n p (k+1)=pd n p k+sz n x:=by
 obtain⟨c,a⟩:=aL.1 b;unfold pd;rw[oJ c,a];simp;omega
theorem Gs(n:Nat)(l:List (Tm n)):(l.map λy=>1+sz n y).sum=l.length+(l.map λy=>sz n y).sum:=by
 induction l with
 | nil=>simp
 | cons y l ih=>simp only[aG,bq,aV,ih];omega
theorem GG(n:Nat)(p:List (Tm n))(k:Nat)(a:p.length<=k):pd n p k=1+(p.map λy=>1+sz n y).sum:=by
 unfold pd;rw[bw a,Gs];omega
theorem wb(n:Nat)(p:List (Tm n)):p.length<=(p.flatMap λy=>ar n y).length:=by
 induction p with
 | nil=>simp
 | cons y l ih=>
  have:1<=(ar n y).length:=by cases n<;>simp[ar]
  simp only[bv,aY,aV];omega
theorem By(n:Nat)(p:List (Tm n))(k:Nat):0<=pd n p k/\pd n p k<=3*(1+(p.flatMap λy=>ar n y).length:Int):=by
 have b:=wb n p;have a:=EB (λy=>ar n y) p k;have key:∀l:List (Tm n),0<=(l.map λy=>sz n y).sum/\(l.map λy=>sz n y).sum<=2*((l.flatMap λy=>ar n y).length:Int):=by
  intro l
  induction l with
  | nil=>exact⟨by simp,by simp⟩
  | cons y l ih=>
   have c:=ez n y;simp only[aG,bq,bv,aY];exact⟨by omega,by omega⟩
 have k:=key (p.take k);unfold pd;exact⟨by omega,by omega⟩
def Oy(n:Nat):Prop:=∀(x:Tm n)(B:Nat)(w:World),In B w n x->B<=w.heap.size->(ar n x).length<=2097152->
 ah 81 #[df n x] w λe w'=>e=.returned (.int .i64 (sz n x))/\ag w w'
theorem Dw(b d:Int)(s:ByteArray)(a:Option Addr)(len pc:Nat)(w:World)(c:¬b=4):ah 81 #[.agg #[.int .i64 b,.int .i64 d,.string s,.slice a len pc]] w λe w'=>e=.returned (.int .i64 0)/\ag w w':=by
 have f:(b !=4)=true:=by simpa using c
 clear c;go_enter Tryz.func81,Tryz.ntmps81;go_wp2_with fail
 go_ret
 exact⟨rfl,(ak _ _).alloc (ai _) _⟩
theorem GF(n:Nat)(ih:Oy n)(M:Int)(s:ByteArray)(a:Option Addr)(pc len:Nat)(p:List (Tm n))(l:Hid (p.length=len))(B:Nat)(w:World)(g:Hid (p=[]\/∃b o,a=some ⟨b,o,none⟩/\b<B/\∀(i:Nat)(y:Tm n),p[i]?=some y->dA w b (o+i*4) n y/\In B w n y))(v:B<=w.heap.size)(D:Hid (1+(p.flatMap λy=>ar n y).length<=2097152)):ah 81 #[.agg #[.int .i64 4,.int .i64 M,.string s,.slice a len pc]] w λe w'=> e=.returned (.int .i64 (1+(p.map λy=>1+sz n y).sum))/\ag w w':=by
 have S:len<=2097152:=by have u:=wb n p;have O:=D.out;rw[<-l.out];omega
 go_enter Tryz.func81,Tryz.ntmps81;go_wp2_with fail;go_loopw [3,16] (λt i wr=>∃k:Nat,∃h:Int,k<=len/\i=.int .i64 k/\t=.int .i64 h/\Hid (h=pd n p k)/\ag w wr) (λ_ i _=>len-(intOf i).toNat)
 case atStart=>exact⟨0,1+len,by omega,rfl,rfl,by simp only[Hid,pd];rw[l.out];simp,(ak _ _).alloc (ai _) _⟩
 case round=>
  obtain⟨k,h,P,rfl,rfl,x,d⟩:=hrel;have r:=By n p k;rw[<-x.out]at r;have I:=D.out;have U:0<=h:=r.1;have V:h<=6291456:=by omega
  clear r;by_cases K:k<len
  ·obtain⟨c,j⟩:∃c,p[k]?=some c:=⟨p[k]'(by rw[l.out];exact K),aD _⟩;have G:=aj (Dy n p k c j);have H:=jM p c (aC j);have E:(ar n c).length<=2097152:=by omega
   have z:=ez n c;have ab:0<=sz n c:=z.1;have ad:sz n c<=4194304:=by omega
   clear H I z;rcases g.out with g|⟨T,po,rfl,L,g⟩
   ·subst g;simp at j
   obtain⟨m,q⟩:=g k c j;replace m:=m.below (d.mono v) L;replace q:=q.below (d.mono v);clear g j;cases n with
   | zero=>exact m.elim
   | succ n=>
   obtain⟨W,X,Y,Z⟩:=m;have A:B<=wr.heap.size:=av v d.size
   have F:Hid (∀f,ag wr f->ah 81 #[.agg #[.int .i64 c.1.1,.int .i64 c.1.2.1,.string c.1.2.2,.slice c.2.1.1 c.2.2.length c.2.1.2]] f λe w'=>e=.returned (.int .i64 (sz (n+1) c))/\ag f w'):=
    λf u=>ih c B f (q.below (u.mono A)) (av A u.size) E
   clear ih q E;generalize c.2.2.length=aa at*;generalize sz (n+1) c=N at*;have Q:(0:Int)<=(k:Int):=by omega
   have R:(k:Int)<(len:Int):=by omega
   go_wp2_with fail;refine(F.out _ ((ak _ _).alloc (ai _) _)).mono ?_;rintro e f ⟨rfl,C⟩;have J:ag w f:=(d.trans (((ak _ _).alloc (ai _) _).mono d.size)).trans (C.mono (by have:=d.size;simp;omega));clear C;go_wp2_with fail;go_roundw
   case rel=>exact⟨k+1,h+N,by omega,by go_num,by go_num,by simp only[Hid];rw[G.out,<-x.out],J⟩
   case measure=>simp[intOf];omega
  ·go_wp2_with fail
   go_ret
   refine⟨iQ ?_,d⟩;rw[x.out,GG n p k (by rw[l.out];omega)]
theorem xf(n:Nat):Oy n:=by
 induction n with
 | zero=>intro m i b g;exact g.elim
 | succ n ih=>
  intro m i b g p l;obtain⟨⟨k,e,d⟩,⟨c,pc⟩,a⟩:=m;obtain⟨⟨_,_,_,s,r⟩,j⟩:=g;simp only at s r j;have q:(ar (n+1) ((k,e,d),(c,pc),a)).length=1+(a.flatMap λh=>ar n h).length:=by simp only[ar,aV];omega
  rw[q]at l;show ah 81 #[.agg #[.int .i64 k,.int .i64 e,.string d,.slice c a.length pc]] b λo t=>o=.returned (.int .i64 (if k=4 then 1+(a.map λh=>1+sz n h).sum else 0))/\ag b t;by_cases f:k=4
  ·subst f;exact GF n ih e d c pc a.length a rfl i b j p l
  ·rw[if_neg f];exact Dw k e d c a.length pc b f
theorem Bu(w:World)(k g:Int)(s:ByteArray)(a:Option Addr)(l c:Nat)(j:Bool)(d n:Int)(D:Hid (∀w1,ag w w1->ah 79 #[.agg #[.int .i64 k,.int .i64 g,.string s,.slice a l c]] w1 λe w'=>e=.returned (.bool j)/\ag w1 w'))(C:Hid (∀w1,ag w w1->ah 80 #[.agg #[.int .i64 k,.int .i64 g,.string s,.slice a l c]] w1 λe w'=>e=.returned (.int .i64 d)/\ag w1 w'))(E:Hid (∀w1,ag w w1->ah 81 #[.agg #[.int .i64 k,.int .i64 g,.string s,.slice a l c]] w1 λe w'=>e=.returned (.int .i64 n)/\ag w1 w')):ah 51 #[.agg #[.int .i64 k,.int .i64 g,.string s,.slice a l c]] w λe w'=>e=.returned (.int .i64 (if j then if 12<d\/200<n then 2 else 0 else 5))/\ag w w':=by
 generalize A:(if j then if 12<d\/200<n then (2:Int)else 0 else 5)=I;have i:=aj A;clear A;go_enter Tryz.func51,Tryz.ntmps51;go_wp2_with fail;refine(D.out _ ((ak _ _).alloc (ai _) _)).mono ?_;rintro e w1 ⟨rfl,m⟩;have f:Hid (ag w w1/\w.heap.size+1<=w1.heap.size):=⟨((ak _ _).alloc (ai _) _).trans (m.mono (by simp)),by have:=m.size;simpa using this⟩;have b:=am m;simp only[gI]at b;have t:=(b w.heap.size 0 (by omega)).trans (by simp[go_sem]:_=some (Value.int .i64 k));have u:=(b w.heap.size 1 (by omega)).trans (by simp[go_sem]:_=some (Value.int .i64 g));have v:=(b w.heap.size 2 (by omega)).trans (by simp[go_sem]:_=some (Value.string s));have x:=(b w.heap.size 3 (by omega)).trans (by simp[go_sem]:_=some (Value.slice a l c));clear b m;cases j with
 | false=>
  go_wp2_with fail
  go_ret
  exact⟨iQ (by rw[<-i.out];rfl),f.out.1⟩
 | true=>
  go_wp2_with fail;refine(C.out _ f.out.1).mono ?_;rintro e G ⟨rfl,q⟩;have h:Hid (ag w G):=f.out.1.trans (q.mono f.out.1.size);have b:=am q;have F:=f.out.2;replace t:=(b w.heap.size 0 (by omega)).trans t;replace u:=(b w.heap.size 1 (by omega)).trans u;replace v:=(b w.heap.size 2 (by omega)).trans v;replace x:=(b w.heap.size 3 (by omega)).trans x;clear b q F;by_cases y:12<d
  ·have o:=aj y;go_wp2_with fail
   go_ret
   exact⟨iQ (by rw[<-i.out,if_pos trivial,if_pos (ae o.out)]),h.out⟩
  ·have o:=aj y;go_wp2_with fail;refine(E.out _ h.out).mono ?_;rintro e H ⟨rfl,z⟩;have r:Hid (ag w H):=h.out.trans (z.mono h.out.size);clear z;by_cases B:200<n
   ·have p:=aj B;go_wp2_with fail
    go_ret
    exact⟨iQ (by rw[<-i.out,if_pos trivial,if_pos (af p.out)]),r.out⟩
   ·have p:=aj B;go_wp2_with fail
    go_ret
    exact⟨iQ (by rw[<-i.out,if_pos trivial,if_neg (by have:=o.out;have:=p.out;omega)]),r.out⟩
def vF(n:Nat)(x:Tm n):Int:=if bR n x then if 12<eX n x\/200<sz n x then 2 else 0 else 5
theorem Bt(n:Nat)(x:Tm n)(B:Nat)(w:World)(d:In B w n x)(b:B<=w.heap.size)(f:(ar n x).length<=2097152):ah 51 #[df n x] w λe w'=>e=.returned (.int .i64 (vF n x))/\ag w w':=by
 cases n with
 | zero=>exact d.elim
 | succ n=>
 exact Bu w x.1.1 x.1.2.1 x.1.2.2 x.2.1.1 x.2.2.length x.2.1.2 (bR (n+1) x) (eX (n+1) x) (sz (n+1) x)
  (λc a=>Cm (n+1) x B c (d.below (a.mono b)) (av b a.size))
  (λc a=>E9 (n+1) x B c (d.below (a.mono b)) (av b a.size) f)
  (λc a=>xf (n+1) x B c (d.below (a.mono b)) (av b a.size) f)
theorem kS:(n:Nat)->(x:Tm n)->bR n x=(ar n x).all co
 | 0,_=>by simp[bR,ar,co]
 | n+1,x=>by
  have e:(ar (n+1) x).all co=(co (bu n x) && (x.2.2.flatMap λy=>ar n y).all co):=rfl;rw[e];simp only[bR];cases hg:co (bu n x)
  ·rfl
  ·rw[dY,dY];by_cases b:x.1.1=4
   ·rw[b];have key:∀l:List (Tm n),(l.all λy=>bR n y)=(l.flatMap λy=>ar n y).all co:=by
     intro l
     induction l with
     | nil=>rfl
     | cons y l ih=>simp only[iK,bv,j0,ih,kS n y]
    rw[key];simp
   ·have c:x.2.2=[]:=by
      unfold co at hg;simp only[ax,g9,cd]at hg;rcases hg.2 with a|a
      ·exact(b a).elim
      ·have:¬(0:Int)<(x.2.2.length:Int):=by simpa [bu]using a
       exact bD (by omega)
    rw[c];simp
def mZ:List Nd->List Int->Int->Int
 | x::l,d::ds,m=>mZ l ds (mD x d m)
 | _,_,m=>m
theorem zF(g:Int):(l:List Nd)->(b:List Int)->(m:Int)->l.length=b.length->B9 g l b m=if l.all co then (if 12<mZ l b m\/200<g then 2 else 0)else 5
 | [],_,_,_=>rfl
 | x::l,[],_,a=>by simp at a
 | x::l,d::b,m,a=>by
  have ih:=zF g l b (mD x d m) (by simpa using a);simp only[B9,mZ];by_cases f:co x=true
  ·have e:(x::l).all co=l.all co:=by simp[f]
   rw[if_pos f,ih];by_cases c:l.all co=true
   ·rw[if_pos c,if_pos (e.trans c)];rfl
   ·rw[if_neg c,if_neg (λa=>c (e.symm.trans a))]
  ·rw[if_neg f,if_neg (λa=>f (bX.1 a x (by simp)))]
theorem qt:(l r:List Nd)->(a es:List Int)->(m:Int)->l.length=a.length->mZ (l++r) (a++es) m=mZ r es (mZ l a m)
 | [],_,[],_,_,_=>rfl
 | [],_,_::_,_,_,h=>by simp at h
 | _::_,_,[],_,_,h=>by simp at h
 | x::l,r,d::a,es,m,h=>by
  simp only[fC,mZ];exact qt l r a es _ (by simpa using h)
theorem Ae{n:Nat}(c:Int):(p:List (Tm n))->(m e:Int)->p.foldl (λm y=>max m (c+eX n y)) (max m (c+e))=max m (c+p.foldl (λm y=>max m (eX n y)) e)
 | [],_,_=>rfl
 | y::p,m,e=>by
  simp only[fD];have a:max (max m (c+e)) (c+eX n y)=max m (c+max e (eX n y)):=by omega
  rw[a];exact Ae c p m (max e (eX n y))
theorem zQ:(n:Nat)->(x:Tm n)->(d m:Int)->(∀a∈ar n x,co a=true)->d<=m->mZ (ar n x) (oZ n x d) m=max m (d+eX n x)
 | 0,x,_,_,h,_=>by
  have:=h ((0,0,.empty),(none,0,0)) (by simp[ar]);rcases jR _ this with g|g|g|g|g|⟨g,_⟩<;>simp at g
 | n+1,x,d,m,h,k=>by
  have f:=h (bu n x) (by simp[ar,bu]);have key:∀(p:List (Tm n))(m:Int),(∀y∈p,y∈x.2.2)->d+1<=m->mZ (p.flatMap λy=>ar n y) (p.flatMap λy=>oZ n y (d+1)) m=p.foldl (λm y=>max m (d+1+eX n y)) m:=by
   intro p
   induction p with
   | nil=>intro m _ _;rfl
   | cons y p ih=>
    intro m l k;simp only[bv,fD];rw[qt _ _ _ _ _ (jJ n y (d+1)).symm,zQ n y (d+1) m (λa q=>h a (ol (l y (by simp)) q)) k];exact ih _ (λu t=>l u (by simp[t])) (by omega)
  have o:mZ (ar (n+1) x) (oZ (n+1) x d) m=mZ (x.2.2.flatMap λy=>ar n y) (x.2.2.flatMap λy=>oZ n y (d+1)) (mD (bu n x) d m):=rfl;rw[o];simp only[eX];by_cases b:x.1.1=4
  ·rw[if_pos b];have c:mD (bu n x) d m=max m (d+1+0):=by
    unfold mD bu;by_cases j:m<d+1
    ·rw[if_pos ⟨b,j⟩];omega
    ·rw[if_neg (λi=>j i.2)];omega
   rw[c,key x.2.2 _ (λ_ s=>s) (by omega),Ae];omega
  ·rw[if_neg b];have r:x.2.2=[]:=by
    unfold co at f;simp only[ax,g9,cd]at f;rcases f.2 with e|e
    ·exact(b e).elim
    ·have:¬(0:Int)<(x.2.2.length:Int):=by simpa [bu]using e
     exact bD (by omega)
   have c:mD (bu n x) d m=m:=E8 _ (λi=>b i.1);rw[r,c];simp only[List.flatMap_nil,mZ];omega
theorem fZ(n:Nat)(x:Tm n):vF n x=bm n x:=by
 unfold vF bm;rw[zF _ _ _ _ (jJ n x 0).symm,<-kS n x];by_cases a:bR n x=true
 ·rw[if_pos a,if_pos a];have d:∀b∈ar n x,co b=true:=by
   rw[kS n x]at a;exact λb c=>bX.1 a b c
  have e:=fN n x;rw[zQ n x 0 0 d (by omega)];have:max (0:Int) (0+eX n x)=eX n x:=by omega
  rw[this]
 ·rw[if_neg a,if_neg a]
theorem dz(n:Nat)(x:Tm n)(B:Nat)(w:World)(c:In B w n x)(a:B<=w.heap.size)(b:(ar n x).length<=2097152):ah 51 #[df n x] w λe w'=>e=.returned (.int .i64 (bm n x))/\ag w w':=by
 rw[<-fZ];exact Bt n x B w c a b
end Go.Proofs.YtckamaoibonjcaaGreat
