/- What is proved here: plain facts and contracts that the claimed theorem stands on. No condition but those that each names. -/
import Derived.Test.YtckamaoibonjcaaGreatH04
import Derived.Deep.RegionHeld3
import Derived.Deep.DrawnRows
namespace Go.Proofs.YtckamaoibonjcaaGreat
open Go.RowKit
set_option maxHeartbeats 400000
def bZ(P:Nat->Prop):(n:Nat)->Tm n->Prop
 | 0,_=>False
 | n+1,x=>x.2.2=[]\/∃b o,x.2.1.1=some ⟨b,o,none⟩/\P b/\∀(i:Nat)(y:Tm n),x.2.2[i]?=some y->bZ P n y
theorem bZ.mono{P Q:Nat->Prop}(a:∀b,P b->Q b):{n:Nat}->{x:Tm n}->bZ P n x->bZ Q n x
 | 0,_,k=>k
 | _+1,_,k=>by
  rcases k with k|⟨b,o,e,c,k⟩
  ·exact ag k
  ·exact ah ⟨b,o,e,a b c,λi y d=>(k i y d).mono a⟩
theorem bm{w w':World}{b:Nat}(a:w'.heap[b]?=w.heap[b]?)(o:Nat):w'.cell? ⟨b,o,none⟩=w.cell? ⟨b,o,none⟩:=by
 simp[World.cell?,a]
theorem dr.block{w w':World}{b o:Nat}(a:w'.heap[b]?=w.heap[b]?):{n:Nat}->{x:Tm n}->dr w b o n x->dr w' b o n x
 | 0,_,k=>k
 | _+1,_,k=>by
  obtain⟨c,d,e,f⟩:=k;exact⟨(bm a _).trans c,(bm a _).trans d,(bm a _).trans e,(bm a _).trans f⟩
theorem In.off{P:Nat->Prop}{w w':World}(f:∀b,P b->w'.heap[b]?=w.heap[b]?){B:Nat}:{n:Nat}->{x:Tm n}->bZ P n x->In B w n x->In B w' n x
 | 0,_,_,k=>k
 | _+1,_,p,k=>by
  obtain⟨m,a⟩:=k;refine⟨m,?_⟩;rcases a with a|⟨b,o,e,j,a⟩
  ·exact ag a
  ·rcases p with p|⟨q,r,c,l,p⟩
   ·exact ag p
   ·rw[e]at c;injection c with c;injection c with g h;subst g h;exact ah ⟨b,o,e,j,λi y d=>⟨(a i y d).1.block (f b l),(a i y d).2.off f (p i y d)⟩⟩
theorem In.offB{P:Nat->Prop}{B:Nat}{w:World}:{n:Nat}->{x:Tm n}->bZ P n x->In B w n x->bZ (λb=>P b/\b<B) n x
 | 0,_,p,_=>p
 | _+1,_,p,k=>by
  obtain⟨_,a⟩:=k;rcases p with p|⟨b,o,e,h,p⟩
  ·exact ag p
  ·rcases a with a|⟨l,m,c,j,a⟩
   ·exact ag a
   ·rw[e]at c;injection c with c;injection c with f g;subst f g;exact ah ⟨b,o,e,⟨h,j⟩,λi y d=>In.offB (p i y d) (a i y d).2⟩
def fX:(n:Nat)->Tm n->Nd
 | 0,_=>((0,0,⟨#[]⟩),(none,0,0))
 | n+1,x=>bu n x
theorem KW{w:World}{base g c L:Nat}{n:Nat}{l:List (Tm (n+1))}(a:w.ownsRow base 30 4 (.slice (some ⟨g,0,none⟩) L c) L (cm (l.map (fX (n+1)))))(k:Nat)(x:Tm (n+1))(d:l[k]?=some x):dr w g (0+k*4) (n+1) x:=by
 have b:=CT a k (fX (n+1) x) (by simp[d]);rw[cP];exact b
def qh(base:Nat)(n:Nat)(l:List (Tm n))(v:Value)(w:World):Prop:=
 w.ownsRow base 30 4 v l.length (cm (l.map (fX n)))/\∀a∈l,In w.heap.size w n a/\bZ (λb=>base<=b/\v.ownBlock≠some b) n a
theorem qh.tup{base n:Nat}{l:List (Tm (n+1))}{v:Value}{w:World}(m:qh base (n+1) l v w):∃a c,v=.slice a l.length c/\bZ (λb=>base<=b) (n+2) ((4,0,⟨#[]⟩),(a,c),l)/\In w.heap.size w (n+2) ((4,0,⟨#[]⟩),(a,c),l):=by
 obtain⟨i,j⟩:=m;have d:dk 4/\dk 0/\(⟨#[]⟩:ByteArray).size<=maxLen:=⟨⟨by omega,by omega⟩,⟨by omega,by omega⟩,aF _⟩;have e:=i;obtain⟨y,e⟩:=e;rcases e with⟨e,o⟩|⟨f,cap,x,rfl,r,s,q,u,A,z⟩
 ·have:l=[]:=bB o;subst this;refine⟨none,0,by rw[e];rfl,ag rfl,⟨d.1,d.2.1,d.2.2,aF _,aF _⟩,ag rfl⟩
 ·have t:f<w.heap.size:=(aC.1 s).1;refine⟨some ⟨f,0,none⟩,cap,rfl,ah ⟨f,0,rfl,r,λk h g=>((j h (aG g)).2).mono λb p=>p.1⟩,⟨d.1,d.2.1,d.2.2,q,u⟩,ah ⟨f,0,rfl,t,λk h g=>⟨KW i k h g,(j h (aG g)).1⟩⟩⟩
def sq(a:An):Nd:=fX a.1 a.2
def fL(l:List An):List Value:=cm (l.map sq)
theorem kp(l:List An):(fL l).length=l.length*4:=by simp[fL,nE]
theorem zm(l:List An):∀a∈fL l,a.oneCell'=true:=sr _
def mu(base:Nat)(g c:Nat)(b:List An)(w:World):Prop:=w.ownsRow base 30 4 (.slice (some ⟨g,0,none⟩) b.length c) b.length (fL b)
theorem mu.cells{base g c:Nat}{b:List An}{w:World}(a:mu base g c b w)(i:Nat)(y:An)(d:b[i]?=some y):w.cell? ⟨g,i*4,none⟩=some (ab (sq y).1.1)/\w.cell? ⟨g,i*4+1,none⟩=some (ab (sq y).1.2.1)/\w.cell? ⟨g,i*4+2,none⟩=some (ae (sq y).1.2.2)/\w.cell? ⟨g,i*4+3,none⟩=some (.slice (sq y).2.1 (sq y).2.2.1 (sq y).2.2.2):=
 CT (l:=b.map sq) a i (sq y) (by simp[d])
theorem mu.lt{base g c:Nat}{b:List An}{w:World}(a:mu base g c b w):base<=g/\g<w.heap.size:=World.ownsRow.lt a g rfl
theorem mu.kept{base g c:Nat}{b:List An}{w w':World}(d:mu base g c b w){row:Option Nat}(e:w.grownBy w' row)(f:row≠some g):mu base g c b w':=
 oN d e (ah λa=>f a.symm)
theorem cH{w w':World}(a:ai w w')(row:Option Nat):w.grownBy w' row:=⟨a.os,a.tape,a.output,a.size,λk b _=>a.block k b⟩
theorem mu.below{base g c:Nat}{b:List An}{w w':World}(a:mu base g c b w)(d:ai w w'):mu base g c b w':=a.kept (cH d none) (by simp)
theorem nA{w w':World}{g B:Nat}(a:w.grownBy w' (some g))(b:B<=g)(c:g<w.heap.size):Below B w w':=⟨a.os,a.tape,a.output,a.size,λk d=>a.block k (by omega) (by simp;omega)⟩
theorem kR{w w1 w2:World}{row:Option Nat}(a:w.grownBy w1 row)(k:w1.grownBy w2 row):w.grownBy w2 row:=
 ⟨k.os.trans a.os,k.tape.trans a.tape,k.output.trans a.output,ax a.size k.size,λb c d=>(k.block b (aL c a.size) d).trans (a.block b c d)⟩
theorem mu.free{base g c:Nat}{b:List An}{w:World}(e:mu base g c b w)(j:Nat):w.frozen? ⟨g,j,none⟩=false:=by
 obtain⟨n,d⟩:=e;rcases d with⟨d,_⟩|⟨m,cap,i,h,q,f,o,r,s,p⟩
 ·simp at d
 ·injection h with a k l;injection a with a;injection a with a _;subst a;simp[World.frozen?,f]
def cG(w:World)(g o:Nat)(v0 v1 v2 v3:Value):World:=(((w.setCell ⟨g,o,none⟩ v0).setCell ⟨g,o+1,none⟩ v1).setCell ⟨g,o+2,none⟩ v2).setCell ⟨g,o+3,none⟩ v3
def iX(w:World)(g o:Nat)(x:Nd):World:=cG w g o (ab x.1.1) (ab x.1.2.1) (ae x.1.2.2) (.slice x.2.1 x.2.2.1 x.2.2.2)
theorem iR{w:World}{base e size g L c:Nat}{xs:List Value}(i:w.ownsRow base e size (.slice (some ⟨g,0,none⟩) L c) L xs)(j:Nat)(d:Value):(w.setCell ⟨g,j,none⟩ d).ownsRow base e size (.slice (some ⟨g,0,none⟩) L c) L (xs.set j d):=by
 obtain⟨k,b⟩:=i;refine⟨by simpa using k,?_⟩;rcases b with⟨b,_⟩|⟨t,cap,f,q,n,o,l,p,r,m⟩
 ·simp at b
 ·injection q with a s h;injection a with a;injection a with a _;subst a h;refine ah ⟨g,c,f.setIfInBounds j d,rfl,n,?_,l,p,by simpa using r,?_⟩
  ·simp[World.setCell,bG,o]
  ·rw[<-m];simp[List.take_set]
theorem sw:(l:List Nd)->(i:Nat)->(x:Nd)->i<l.length-> ((((cm l).set (i*4) (ab x.1.1)).set (i*4+1) (ab x.1.2.1)).set (i*4+2) (ae x.1.2.2)).set (i*4+3) (.slice x.2.1 x.2.2.1 x.2.2.2)=cm (l.set i x)
 | [],i,x,h=>by simp at h
 | y::l,0,x,_=>by simp[cm,uF]
 | y::l,i+1,x,h=>by
  have ih:=sw l i x (by simpa using h);have e:cm (y::l)=uF y++cm l:=rfl;have b:cm ((y::l).set (i+1) x)=uF y++cm (l.set i x):=rfl;have a:(uF y).length=4:=rfl;rw[e,b,<-ih];rw[hU _ _ (by rw[a];omega),hU _ _ (by rw[a];omega),hU _ _ (by rw[a];omega),hU _ _ (by rw[a];omega),a];rw[show (i+1)*4-4=i*4 by omega,show (i+1)*4+1-4=i*4+1 by omega,show (i+1)*4+2-4=i*4+2 by omega,show (i+1)*4+3-4=i*4+3 by omega]
theorem mu.put{base g c:Nat}{b:List An}{w:World}(d:mu base g c b w)(i:Nat)(t:An)(e:i<b.length):mu base g c (b.set i t) (iX w g (i*4) (sq t)):=by
 have a:=iR (iR (iR (iR d (i*4) (ab (sq t).1.1)) (i*4+1) (ab (sq t).1.2.1)) (i*4+2) (ae (sq t).1.2.2)) (i*4+3) (.slice (sq t).2.1 (sq t).2.2.1 (sq t).2.2.2);unfold fL at a;rw[sw (b.map sq) i (sq t) (by simpa using e)]at a;unfold mu fL;rw[List.map_set,List.length_set];exact a
theorem aT{w:World}{g b o:Nat}(c:b≠g)(v0 v1 v2 v3:Value):(cG w g o v0 v1 v2 v3).heap[b]?=w.heap[b]? :=by
 have d:g≠b:=λa=>c a.symm;simp[cG,World.setCell,bG,d]
theorem bj{w:World}{g o:Nat}(v0 v1 v2 v3:Value):(cG w g o v0 v1 v2 v3).heap.size=w.heap.size:=by simp[cG,World.setCell]
theorem C3{w:World}{g o:Nat}(v0 v1 v2 v3:Value):w.grownBy (cG w g o v0 v1 v2 v3) (some g):=
 ⟨rfl,rfl,rfl,dm (bj _ _ _ _).symm,λk _ b=>aT (λa=>b (by rw[a])) _ _ _ _⟩
theorem DO{w w':World}{v0 v1 v2 v3:Value}{t:TypeId}(c:Below (w.alloc (.cells #[v0,v1,v2,v3] t)).heap.size (w.alloc (.cells #[v0,v1,v2,v3] t)) w'):(w'.cell? ⟨w.heap.size,0,none⟩=some v0/\w'.cell? ⟨w.heap.size,1,none⟩=some v1/\w'.cell? ⟨w.heap.size,2,none⟩=some v2/\w'.cell? ⟨w.heap.size,3,none⟩=some v3)/\ (w'.frozen? ⟨w.heap.size,0,none⟩=false/\w'.frozen? ⟨w.heap.size,1,none⟩=false/\w'.frozen? ⟨w.heap.size,2,none⟩=false/\w'.frozen? ⟨w.heap.size,3,none⟩=false):=by
 have a:=λo=>c.cell (p:=⟨w.heap.size,o,none⟩) (by simp);have b:=λo=>c.frozen (p:=⟨w.heap.size,o,none⟩) (by simp);exact⟨⟨(a 0).trans (by simp[go_sem]),(a 1).trans (by simp[go_sem]),(a 2).trans (by simp[go_sem]),(a 3).trans (by simp[go_sem])⟩,(b 0).trans (by simp[go_sem]),(b 1).trans (by simp[go_sem]),(b 2).trans (by simp[go_sem]),(b 3).trans (by simp[go_sem])⟩
theorem nt{w1 w2:World}{q:Nat}{c d e f:Value}(b:q<w1.heap.size)(l:ai w1 w2)(k:w1.cell? ⟨q,0,none⟩=some c/\w1.cell? ⟨q,1,none⟩=some d/\w1.cell? ⟨q,2,none⟩=some e/\w1.cell? ⟨q,3,none⟩=some f):w2.cell? ⟨q,0,none⟩=some c/\w2.cell? ⟨q,1,none⟩=some d/\w2.cell? ⟨q,2,none⟩=some e/\w2.cell? ⟨q,3,none⟩=some f:=by
 obtain⟨g,h,i,j⟩:=k;have a:=ap l;exact⟨(a _ _ b).trans g,(a _ _ b).trans h,(a _ _ b).trans i,(a _ _ b).trans j⟩
def ez(base g c:Nat)(o:Option (List An))(w:World)(e:Ending)(w':World):Prop:=
 e=.returned (.bool o.isSome)/\w.grownBy w' (some g)/\∀b,o=some b->mu base g c b w'
def BM(B:Nat)(w:World)(b:List An):Prop:=b.length=4/\∀y∈b,EF B w y/\aA y
theorem EF.below{B:Nat}{w w':World}(a:Below B w w'){x:An}(k:EF B w x):EF B w' x:=In.below a k
theorem BM.below{B:Nat}{w w':World}(c:Below B w w'){b:List An}(k:BM B w b):BM B w' b:=⟨k.1,λy a=>⟨(k.2 y a).1.below c,(k.2 y a).2⟩⟩
theorem BM.fit{B:Nat}{w:World}{b a:List An}(k:BM B w b){n m:Nat}{p:Tm n}{t:Tm m}(f:In B w m t)(e:aA ⟨m,t⟩)(d:gN n p m t b=some a):BM B w a:=
 ku (λc=>EF B w c/\aA c) (F8 (Je B w) aR) n p m t ⟨f,e⟩ b a k d
def Mq(n:Nat):Prop:=∀(p:Tm n)(m:Nat)(t:Tm m)(b:List An)(base g c B:Nat)(w:World),In B w n p->In B w m t->aA ⟨n,p⟩->aA ⟨m,t⟩->BM B w b->B<=base->mu base g c b w->
 ak 160 #[.slice (some ⟨g,0,none⟩) 4 c,df n p,df m t] w (ez base g c (gN n p m t b) w)
theorem tV(x y:Int)(w:World):ak 178 #[ab x,ab y] w λe w'=>e=.returned (ab (nv x y))/\w'=w:=by
 go_enter Tryz.func178,Tryz.ntmps178;go_wp2
 all_goals go_ret
 all_goals refine⟨iP ?_,rfl⟩
 all_goals unfold nv
 all_goals (repeat' split)<;>omega
theorem Hu(x y:ByteArray)(w:World):ak 179 #[ae x,ae y] w λe w'=>e=.returned (ab (vu x y))/\w'=w:=by
 go_enter Tryz.func179,Tryz.ntmps179;go_wp2
 all_goals go_ret
 all_goals refine⟨iP ?_,rfl⟩
 all_goals unfold vu
 all_goals simp[*]
attribute [local go_sem ↓] Go.wp_at_zero Go.wp_at_succ
def F5(n:Nat):Prop:=∀(x:Tm n)(m:Nat)(y:Tm m)(B:Nat)(w:World),In B w n x->In B w m y->B<=w.heap.size->
 ak 173 #[df n x,df m y] w λe w'=>e=.returned (ab (wC n x m y))/\ai w w'
theorem Kw(p q:Nat)(a c:Option Addr)(pc d:Nat)(w:World)(_hpc:p<=9223372036854775807)(_hqc:q<=9223372036854775807)(b:((p:Int)==(q:Int))=false):ak 180 #[.slice a p pc,.slice c q d] w λe w'=>e=.returned (ab (nv p q))/\w'=w:=by
 have f:((p:Int) !=(q:Int))=true:=by simpa using b
 go_enter Tryz.func180,Tryz.ntmps180;go_wp2_with (go_at_call 178;refine(tV _ _ _).mono ?_;rintro e w' ⟨rfl,rfl⟩)
 go_ret
 exact⟨rfl,rfl⟩
theorem Kv(n m:Nat)(ih:F5 n)(p:List (Tm n))(q:List (Tm m))(len:Nat)(M:Hid (p.length=len))(V:Hid (q.length=len))(g po h l pc X:Nat)(B:Nat)(w:World)(ag:len<=9223372036854775807)(T:g<B)(U:h<B)(L:∀(i:Nat)(y:Tm n),p[i]?=some y->dr w g (po+i*4) n y/\In B w n y)(N:∀(i:Nat)(y:Tm m),q[i]?=some y->dr w h (l+i*4) m y/\In B w m y)(o:B<=w.heap.size):ak 180 #[.slice (some ⟨g,po,none⟩) len pc,.slice (some ⟨h,l,none⟩) len X] w λe w'=> e=.returned (ab (oT (λa b=>wC n a m b) p q))/\ai w w':=by
 go_enter Tryz.func180,Tryz.ntmps180;go_wp2_with fail;go_loopw [19] (λi wr=>∃k:Nat,k<=len/\i=ab k/\ai w wr/\Hid (oT (λa b=>wC n a m b) (p.drop k) (q.drop k)=oT (λa b=>wC n a m b) p q)) (λi _=>len-(intOf i).toNat)
 case atStart=>exact⟨0,by omega,rfl,am _ _,rfl⟩
 case round=>
  obtain⟨k,aa,rfl,f,z⟩:=hrel;by_cases K:k<len
  ·obtain⟨c,A⟩:∃c,p[k]?=some c:=⟨p[k]'(by rw[M.out];exact K),aE _⟩;obtain⟨y,C⟩:∃y,q[k]?=some y:=⟨q[k]'(by rw[V.out];exact K),aE _⟩;obtain⟨s,t⟩:=L k c A;obtain⟨u,v⟩:=N k y C;have E:Hid (oT (λa b=>wC n a m b) (p.drop k) (q.drop k)=if wC n c m y=0 then oT (λa b=>wC n a m b) (p.drop (k+1)) (q.drop (k+1))else wC n c m y):=FY (λa b=>wC n a m b) p q k c y A C;replace s:=s.below (f.mono o) T;replace u:=u.below (f.mono o) U;replace t:=t.below (f.mono o);replace v:=v.below (f.mono o);clear L N A C;cases n with
   | zero=>exact s.elim
   | succ n=>
   cases m with
   | zero=>exact u.elim
   | succ m=>
   obtain⟨al,an,aq,ar⟩:=s;obtain⟨y0,y1,y2,au⟩:=u;have J:∀(d:World),In B d (n+1) c->In B d (m+1) y->B<=d.heap.size->ak 173 #[.agg #[ab c.1.1,ab c.1.2.1,ae c.1.2.2,.slice c.2.1.1 c.2.2.length c.2.1.2],.agg #[ab y.1.1,ab y.1.2.1,ae y.1.2.2,.slice y.2.1.1 y.2.2.length y.2.1.2]] d λe w'=>e=.returned (ab (wC (n+1) c (m+1) y))/\ai d w':=λd P Q R=>ih c (m+1) y B d P Q R;have D:=ao J;clear J ih;have F:=ao t;have G:=ao v;clear t v;generalize wC (n+1) c (m+1) y=r at*;generalize c.2.2.length=Y at*;generalize y.2.2.length=yl at*;have ad:(0:Int)<=(k:Int):=by omega
   have af:(k:Int)<(len:Int):=by omega
   have S:B<=wr.heap.size:=ax o f.size;have O:=ao (D.out wr.drew (F.out.below (am _ _).drew) (G.out.below (am _ _).drew) S);have ah:g<wr.heap.size:=by omega
   have aj:h<wr.heap.size:=by omega
   clear D F G;go_wp2_with fail
   go_region_held3 (λw'=>w'.cell? ⟨g,po+k*4,none⟩=some (ab c.1.1)/\w'.cell? ⟨g,po+k*4+1,none⟩=some (ab c.1.2.1)/\w'.cell? ⟨g,po+k*4+2,none⟩=some (ae c.1.2.2)/\w'.cell? ⟨g,po+k*4+3,none⟩=some (.slice c.2.1.1 Y c.2.1.2)
       /\w'.cell? ⟨h,l+k*4,none⟩=some (ab y.1.1)/\w'.cell? ⟨h,l+k*4+1,none⟩=some (ab y.1.2.1)/\w'.cell? ⟨h,l+k*4+2,none⟩=some (ae y.1.2.2)/\w'.cell? ⟨h,l+k*4+3,none⟩=some (.slice y.2.1.1 yl y.2.1.2))
    (go_keep) ((go_at_call 173;refine O.out.mono ?_;rintro e d ⟨rfl,H⟩;have Z:=ap (cD H)))
   have I:ai w d:=f.trans ((cD H).mono f.size);by_cases j:r=0
   ·have x:Hid (r=0):=j;have W:(r !=0)=false:=by rw[j];rfl
    clear j;go_wp2_with fail;go_roundw
    case rel=>exact⟨k+1,by omega,by go_num,I,by rw[<-z.out,E.out,if_pos x.out];rfl⟩
    case measure=>simp[intOf];omega
   ·have x:Hid (¬r=0):=j;have W:(r !=0)=true:=by simpa using j
    clear j;go_wp2_with fail
    go_ret
    exact⟨iP (by rw[<-z.out,E.out,if_neg x.out]),I⟩
  ·go_wp2_with fail
   go_ret
   refine⟨iP ?_,f⟩;rw[<-z.out,gd (by rw[M.out];omega)];rfl
theorem zt(n m:Nat)(a c:Option Addr)(pc d:Nat)(w:World):ak 180 #[.slice a ([]:List (Tm n)).length pc,.slice c ([]:List (Tm m)).length d] w λe w'=>e=.returned (ab (oT (λa b=>wC n a m b) [] []))/\ai w w':=by
 show ak 180 #[.slice a 0 pc,.slice c 0 d] w λe w'=>e=.returned (ab 0)/\ai w w';go_enter Tryz.func180,Tryz.ntmps180;go_wp2_with fail
 go_loop [19] (λf=>f=ab 0) (λ_=>0)
 case atStart=>rfl
 case round=>
  obtain rfl:=hrel;go_wp2_with fail
  go_ret
  exact⟨rfl,am _ _⟩
theorem CS(w:World)(k b h i:Int)(s g:ByteArray)(a c:Option Addr)(pl f pc d:Nat)(e:¬k=b):ak 173 #[.agg #[ab k,ab h,ae s,.slice a pl pc],.agg #[ab b,ab i,ae g,.slice c f d]] w λe w'=>e=.returned (ab (nv k b))/\ai w w':=by
 have j:(k !=b)=true:=by simpa using e
 clear e;go_enter Tryz.func173,Tryz.ntmps173;go_wp2_with (go_at_call 178;refine(tV _ _ _).mono ?_;rintro e w' ⟨rfl,rfl⟩)
 go_ret
 exact⟨rfl,((am _ _).alloc (aj _) _).alloc (by simp) _⟩
theorem rH(w:World)(k d f:Int)(s c:ByteArray)(a g:Option Addr)(pl i pc h:Nat)(r:Int)(b:k=1\/k=3\/k=5):ak 173 #[.agg #[ab k,ab d,ae s,.slice a pl pc],.agg #[ab k,ab f,ae c,.slice g i h]] w λe w'=>e=.returned (ab (if k=1\/k=3\/k=5 then nv d f else if k=2 then vu s c else if k=4 then r else 0))/\ai w w':=by
 rw[if_pos b];rcases b with rfl|rfl|rfl
 all_goals
  go_enter Tryz.func173,Tryz.ntmps173;go_wp2_with (go_at_call 178;refine(tV _ _ _).mono ?_;rintro e w' ⟨rfl,rfl⟩)
  go_ret
  exact⟨rfl,((am _ _).alloc (aj _) _).alloc (by simp) _⟩
theorem F0(w:World)(g h:Int)(s b:ByteArray)(a c:Option Addr)(pl f pc d:Nat):ak 173 #[.agg #[ab 2,ab g,ae s,.slice a pl pc],.agg #[ab 2,ab h,ae b,.slice c f d]] w λe w'=>e=.returned (ab (vu s b))/\ai w w':=by
 go_enter Tryz.func173,Tryz.ntmps173;go_wp2_with (go_at_call 179;refine(Hu _ _ _).mono ?_;rintro e w' ⟨rfl,rfl⟩)
 go_ret
 exact⟨rfl,((am _ _).alloc (aj _) _).alloc (by simp) _⟩
theorem CR(w:World)(k m n:Int)(s l:ByteArray)(a h:Option Addr)(pl j pc i:Nat)(b:¬k=1)(c:¬k=2)(d:¬k=3)(f:¬k=4)(g:¬k=5):ak 173 #[.agg #[ab k,ab m,ae s,.slice a pl pc],.agg #[ab k,ab n,ae l,.slice h j i]] w λe w'=>e=.returned (ab 0)/\ai w w':=by
 have o:(k==1)=false:=by simpa using b
 have p:(k==2)=false:=by simpa using c
 have q:(k==3)=false:=by simpa using d
 have r:(k==4)=false:=by simpa using f
 have t:(k==5)=false:=by simpa using g
 clear b c d f g;go_enter Tryz.func173,Tryz.ntmps173;go_wp2_with fail
 go_ret
 exact⟨rfl,((am _ _).alloc (aj _) _).alloc (by simp) _⟩
theorem F4(w:World)(j k:Int)(s i:ByteArray)(a b:Option Addr)(pl f pc d:Nat)(r:Int)(c:∀w1:World,ai w w1->ak 180 #[.slice a pl pc,.slice b f d] w1 λe w'=>e=.returned (ab r)/\ai w1 w'):ak 173 #[.agg #[ab 4,ab j,ae s,.slice a pl pc],.agg #[ab 4,ab k,ae i,.slice b f d]] w λe w'=>e=.returned (ab r)/\ai w w':=by
 have g:=ao c;clear c;go_enter Tryz.func173,Tryz.ntmps173;go_wp2_with fail;refine(g.out _ (((am _ _).alloc (aj _) _).alloc (by simp) _)).mono ?_;rintro e w' ⟨rfl,h⟩;go_wp2_with fail
 go_ret
 exact⟨rfl,(((am _ _).alloc (aj _) _).alloc (by simp) _).trans (h.mono (by simp;omega))⟩
theorem FZ(n:Nat):F5 n:=by
 induction n with
 | zero=>intro U h t H g G;exact G.elim
 | succ n ih=>
  intro U h t H g G r w;cases h with
  | zero=>exact r.elim
  | succ h=>
  obtain⟨⟨k,l,i⟩,⟨a,pc⟩,c⟩:=U;obtain⟨⟨z,m,j⟩,⟨f,e⟩,d⟩:=t;obtain⟨⟨M,Y,S,P,E⟩,p⟩:=G;obtain⟨⟨N,Z,T,R,F⟩,q⟩:=r;simp only at M Y S P E p N Z T R F q
  show ak 173 #[.agg #[ab k,ab l,ae i,.slice a c.length pc],.agg #[ab z,ab m,ae j,.slice f d.length e]] g λo B=>o=.returned (ab (if k=z then
   if k=1\/k=3\/k=5 then nv l m else if k=2 then vu i j else if k=4 then if c.length=d.length then oT (λa b=>wC n a h b) c d else nv c.length d.length
   else 0 else nv k z))/\ai g B
  have V:∀s:World,ai g s->ak 180 #[.slice a c.length pc,.slice f d.length e] s λo B=>o=.returned (ab (if c.length=d.length then oT (λa b=>wC n a h b) c d else nv c.length d.length))/\ai s B:=by
   intro s x;unfold maxLen at E F;by_cases u:c.length=d.length
   ·rw[if_pos u];rcases p with p|⟨aa,po,rfl,O,p⟩
    ·subst p;have X:d=[]:=bB u.symm;subst X;exact zt n h a f pc e s
    ·rcases q with q|⟨ad,af,rfl,Q,q⟩
     ·subst q;have W:c=[]:=bB u;subst W;exact zt n h _ f pc e s
     ·have L:=Kv n h ih c d c.length rfl u.symm aa po ad af pc e H s (by omega) O Q (λy t r=>⟨(p y t r).1.below (x.mono w) O,(p y t r).2.below (x.mono w)⟩)
        (λy t r=>⟨(q y t r).1.below (x.mono w) Q,(q y t r).2.below (x.mono w)⟩) (ax w x.size)
      rw[u]at L;rw[u];exact L
   ·rw[if_neg u];refine(Kw c.length d.length a f pc e s (by omega) (by omega) (by simp;omega)).mono ?_;rintro o B ⟨rfl,rfl⟩;exact⟨rfl,am _ _⟩
  generalize (if c.length=d.length then oT (λa b=>wC n a h b) c d else nv c.length d.length)=A at*;clear p q ih P E R F S T w;generalize c.length=pl at*;generalize d.length=v at*;obtain⟨aj,an⟩:=M;obtain⟨al,ao⟩:=N;by_cases o:k=z
  ·subst o;rw[if_pos rfl];by_cases I:k=1
   ·subst I;exact rH g 1 l m i j a f pl v pc e A (ag rfl)
   by_cases J:k=3
   ·subst J;exact rH g 3 l m i j a f pl v pc e A (ah (ag rfl))
   by_cases K:k=5
   ·subst K;exact rH g 5 l m i j a f pl v pc e A (ah (ah rfl))
   rw[if_neg (by omega)];by_cases C:k=2
   ·subst C;exact F0 g l m i j a f pl v pc e
   rw[if_neg C];by_cases D:k=4
   ·subst D;exact F4 g l m i j a f pl v pc e A V
   rw[if_neg D];exact CR g k l m i j a f pl v pc e I C J D K
  ·rw[if_neg o];exact CS g k z l m i j a f pl v pc e o
theorem iU(k b:Int)(s:ByteArray)(a:Option Addr)(l c:Nat)(w:World):ak 170 #[.agg #[ab k,ab b,ae s,.slice a l c]] w λe w'=>e=.returned (.bool (!(k==6)))/\ai w w':=by
 cases h:k==6
 all_goals
  go_enter Tryz.func170,Tryz.ntmps170;go_wp2_with fail
  go_ret
  exact⟨eG (by simp[bne,h]),(am _ _).alloc (aj _) _⟩
theorem AP(x:An)(y:An)(B:Nat)(w:World)(d:EF B w x)(f:EF B w y)(b:B<=w.heap.size)(g:aA x)(h:aA y):ak 173 #[df x.1 x.2,df y.1 y.2] w λe w'=>∃r,e=.returned (ab r)/\Hid ((r==0)=dQ x y)/\ai w w':=by
 refine(FZ x.1 x.2 y.1 y.2 B w d f b).mono ?_;rintro e w' ⟨rfl,c⟩;refine⟨_,rfl,?_,c⟩;have a:=AO x.1 x.2 y.1 y.2 g h;unfold Hid dQ;cases hs:aw x.1 x.2 y.1 y.2
 ·rw[hs]at a;simp only[oA,iff_false]at a;simpa using a
 ·rw[hs]at a;simp only[iff_true]at a;simpa using a
theorem IA(b:List An)(base g c B:Nat)(w:World)(k:Nat)(K:k<4)(m:Nat)(t:Tm (m+1))(y:BM B w b)(M:In B w (m+1) t)(L:aA ⟨m+1,t⟩)(Y:B<=base)(H:mu base g c b w):ak 171 #[.slice (some ⟨g,0,none⟩) 4 c,ab k,.agg #[ab t.1.1,ab t.1.2.1,ae t.1.2.2,.slice t.2.1.1 t.2.2.length t.2.1.2]] w (ez base g c (uc b k ⟨m+1,t⟩) w):=by
 obtain⟨a,v⟩:∃a,b[k]?=some a:=⟨b[k]'(by rw[y.1];exact K),aE _⟩;obtain⟨E,N⟩:=y.2 a (aG v);obtain⟨n,a⟩:=a;cases n with
 | zero=>exact E.elim
 | succ n=>
 have D:Hid (uc b k ⟨m+1,t⟩=if a.1.1=6 then some (b.set k ⟨m+1,t⟩)else if dQ ⟨n+1,a⟩ ⟨m+1,t⟩then some b else none):=by simp only[Hid,uc,v,bN];rfl
 obtain⟨j,l,p,q⟩:=H.cells k _ v;simp only[sq,fX,bu]at j l p q;have ag:(0:Int)<=(k:Int):=by omega
 have ah:(k:Int)<4:=by omega
 have A:=ao H;have I:=ao v;have R:g<w.heap.size:=H.lt.2;clear v H;generalize uc b k ⟨m+1,t⟩=o at*;cases h6:a.1.1==6
 case true=>
  go_enter Tryz.func171,Tryz.ntmps171;go_wp2_with fail;refine(iU _ _ _ _ _ _ _).mono ?_;rintro h e ⟨rfl,d⟩;have f:=ao d;clear j l p q;have r:Hid (mu base g c b e):=(A.out.kept (cW w _ none) (by simp)).below d;have aa:=λS=>r.out.free S;obtain⟨⟨U,V,W,X⟩,_⟩:=DO d;obtain⟨j,l,p,q⟩:=r.out.cells k _ I.out;simp only[sq,fX,bu]at j l p q;clear d;go_wp2_with fail
  go_ret
  have s:o=some (b.set k ⟨m+1,t⟩):=by rw[D.out,if_pos (by simpa using h6)]
  subst s;exact⟨rfl,kR (cH (((am _ _).alloc (aj _) _).trans (f.out.mono (by simp))) _) (C3 _ _ _ _),λJ h=>by obtain rfl:=au h;exact r.out.put k ⟨m+1,t⟩ (by rw[y.1];exact K)⟩
 case false=>
  go_enter Tryz.func171,Tryz.ntmps171;go_wp2_with fail;refine(iU _ _ _ _ _ _ _).mono ?_;rintro h e ⟨rfl,d⟩;clear j l p q;have f:Hid (ai w e):=((am _ _).alloc (aj _) _).trans (d.mono (by simp));have r:Hid (mu base g c b e):=(A.out.kept (cW w _ none) (by simp)).below d;obtain⟨⟨U,V,W,X⟩,_⟩:=DO d;obtain⟨j,l,p,q⟩:=r.out.cells k _ I.out;simp only[sq,fX,bu]at j l p q;have z:Hid (B<=w.heap.size):=by have:=A.out.lt;unfold Hid;omega
  have P:Hid (w.heap.size<e.heap.size):=by have:=d.size;simp at this;unfold Hid;omega
  have F:Hid (EF B e ⟨n+1,a⟩/\EF B e ⟨m+1,t⟩):=⟨E.below (f.out.mono z.out),EF.below (x:=⟨m+1,t⟩) (f.out.mono z.out) M⟩;have Q:=ao (AP ⟨n+1,a⟩ ⟨m+1,t⟩ B e.drew (F.out.1.below (am _ _).drew) (F.out.2.below (am _ _).drew) (ax z.out f.out.size) N L);clear d M E y N L;go_wp2_with fail
  go_region_held3 (λi=>i.cell? ⟨g,k*4,none⟩=some (ab a.1.1)/\i.cell? ⟨g,k*4+1,none⟩=some (ab a.1.2.1)/\i.cell? ⟨g,k*4+2,none⟩=some (ae a.1.2.2)/\i.cell? ⟨g,k*4+3,none⟩=some (.slice a.2.1.1 a.2.2.length a.2.1.2)
        /\i.cell? ⟨w.heap.size,0,none⟩=some (ab t.1.1)/\i.cell? ⟨w.heap.size,1,none⟩=some (ab t.1.2.1)/\i.cell? ⟨w.heap.size,2,none⟩=some (ae t.1.2.2)/\i.cell? ⟨w.heap.size,3,none⟩=some (.slice t.2.1.1 t.2.2.length t.2.1.2))
      (go_keep) ((go_at_call 173;refine Q.out.mono ?_;rintro h O ⟨T,rfl,G,u⟩;have Z:=ap (cD u);have ad:g<e.heap.size:=aL R f.out.size;have af:w.heap.size<e.heap.size:=P.out))
  replace u:=cD u;have C:Hid (w.grownBy O (some g)/\mu base g c b O):=⟨cH (f.out.trans (u.mono f.out.size)) _,r.out.below u⟩;have s:o=if dQ ⟨n+1,a⟩ ⟨m+1,t⟩then some b else none:=by rw[D.out,if_neg (by simpa using h6)]
  rw[<-G.out]at s;clear G D;cases h0:T==0
  all_goals
   rw[h0]at s;go_wp2_with fail
   go_ret
   simp only[oA,if_false,cM]at s;subst s
  ·exact⟨rfl,C.out.1,λJ h=>by cases h⟩
  ·exact⟨rfl,C.out.1,λJ h=>by obtain rfl:=au h;exact C.out.2⟩
def Jy(x:Nd):Bool:= !(x.1.1==5) && !(x.1.1==6)
def jD(n:Nat)(x:Tm n):Bool:=(av n x).all Jy
def aH:(n:Nat)->Tm n->Bool
 | 0,_=>true
 | n+1,x=> !(x.1.1==5) && !(x.1.1==6) && x.2.2.all λy=>aH n y
theorem fj:(n:Nat)->(x:Tm n)->aH n x=jD n x
 | 0,_=>by simp[aH,jD,av,Jy]
 | n+1,x=>by
  have key:∀l:List (Tm n),(l.all λy=>aH n y)=(l.flatMap λy=>av n y).all Jy:=by
   intro l
   induction l with
   | nil=>rfl
   | cons y l ih=>
    have:=fj n y;unfold jD at this;simp only[iK,bv,jV,ih,this]
  show (!(x.1.1==5) && !(x.1.1==6) && x.2.2.all λy=>aH n y)=(Jy (x.1,(x.2.1.1,x.2.2.length,x.2.1.2)) && (x.2.2.flatMap λy=>av n y).all Jy);rw[key];rfl
def Ny(n:Nat):Prop:=∀(x:Tm n)(B:Nat)(w:World),In B w n x->B<=w.heap.size->
 ak 52 #[df n x] w λe w'=>e=.returned (.bool (aH n x))/\ai w w'
theorem zI(n:Nat)(ih:Ny n)(h I:Int)(s:ByteArray)(a:Option Addr)(pc len:Nat)(p:List (Tm n))(C:Hid (p.length=len))(B:Nat)(w:World)(g:Hid (p=[]\/∃b o,a=some ⟨b,o,none⟩/\b<B/\∀(i:Nat)(y:Tm n),p[i]?=some y->dr w b (o+i*4) n y/\In B w n y))(M:len<=9223372036854775807)(r:B<=w.heap.size):ak 52 #[.agg #[ab h,ab I,ae s,.slice a len pc]] w λe w'=>e=.returned (.bool (!(h==5) && !(h==6) && p.all λy=>aH n y))/\ai w w':=by
 cases h5:h==5
 case true=>
  go_enter Tryz.func52,Tryz.ntmps52;go_wp2_with fail
  go_ret
  exact⟨bK (by simp),(am _ _).alloc (aj _) _⟩
 cases h6:h==6
 case true=>
  go_enter Tryz.func52,Tryz.ntmps52;go_wp2_with fail
  go_ret
  exact⟨bK (by simp),(am _ _).alloc (aj _) _⟩
 have v:(!false && !false && p.all λy=>aH n y)=p.all λy=>aH n y:=by simp
 rw[v];clear v;go_enter Tryz.func52,Tryz.ntmps52;go_wp2_with fail;go_loopw [16] (λi wr=>∃k:Nat,k<=len/\i=ab k/\ai w wr/\Hid (((p.drop k).all λy=>aH n y)=p.all λy=>aH n y)) (λi _=>len-(intOf i).toNat)
 case atStart=>exact⟨0,by omega,rfl,(am _ _).alloc (aj _) _,rfl⟩
 case round=>
  obtain⟨k,J,rfl,d,t⟩:=hrel;by_cases F:k<len
  ·obtain⟨c,l⟩:∃c,p[k]?=some c:=⟨p[k]'(by rw[C.out];exact F),aE _⟩;have u:Hid (((p.drop k).all λy=>aH n y)=(aH n c && (p.drop (k+1)).all λy=>aH n y)):=by
    obtain⟨j,E⟩:=aM.1 l;rw[ee j,E];rfl
   rcases g.out with g|⟨N,po,rfl,G,g⟩
   ·subst g;simp at l
   obtain⟨m,q⟩:=g k c l;replace m:=m.below (d.mono r) G;replace q:=q.below (d.mono r);clear g l;cases n with
   | zero=>exact m.elim
   | succ n=>
   obtain⟨O,P,Q,R⟩:=m;have x:B<=wr.heap.size:=ax r d.size
   have D:Hid (∀f,ai wr f->ak 52 #[.agg #[ab c.1.1,ab c.1.2.1,ae c.1.2.2,.slice c.2.1.1 c.2.2.length c.2.1.2]] f λe w'=>e=.returned (.bool (aH (n+1) c))/\ai f w'):=
    λf j=>ih c B f (q.below (j.mono x)) (ax x j.size)
   clear ih q;generalize c.2.2.length=S at*;generalize aH (n+1) c=H at*;have K:(0:Int)<=(k:Int):=by omega
   have L:(k:Int)<(len:Int):=by omega
   go_wp2_with fail;refine(D.out _ ((am _ _).alloc (aj _) _)).mono ?_;rintro e f ⟨rfl,z⟩;have A:ai w f:=(d.trans (((am _ _).alloc (aj _) _).mono d.size)).trans (z.mono (by have:=d.size;simp;omega));clear z;cases H with
   | true=>
    go_wp2_with fail;go_roundw
    case rel=>exact⟨k+1,by omega,by go_num,A,by rw[<-t.out,u.out];rfl⟩
    case measure=>simp[intOf];omega
   | false=>
    go_wp2_with fail
    go_ret
    exact⟨bK (by rw[<-t.out,u.out];rfl),A⟩
  ·go_wp2_with fail
   go_ret
   refine⟨bK ?_,d⟩;rw[<-t.out,gd (by rw[C.out];omega)];rfl
theorem im(n:Nat):Ny n:=by
 induction n with
 | zero=>intro g b f a;exact a.elim
 | succ n ih=>
  intro g b f a i;obtain⟨⟨k,m,l⟩,⟨h,pc⟩,e⟩:=g;obtain⟨⟨_,_,_,j,d⟩,c⟩:=a;simp only at j d c;unfold maxLen at d;exact zI n ih k m l h pc e.length e rfl b f c (by omega) i
def fm:(n:Nat)->Tm n->Int
 | 0,_=>0
 | n+1,x=>if x.1.1=4 then 1+x.2.2.foldl (λm y=>max m (fm n y)) 0 else 0
def sg(n:Nat)(p:List (Tm n))(k:Nat):Int:=(p.take k).foldl (λm y=>max m (fm n y)) 0
theorem Cd(n:Nat)(p:List (Tm n))(k:Nat)(x:Tm n)(b:p[k]?=some x):sg n p (k+1)=max (sg n p k) (fm n x):=by
 obtain⟨c,a⟩:=aM.1 b;unfold sg;rw[oI c,a,l9];rfl
theorem pB{n:Nat}(N:Int):(l:List (Tm n))->(m:Int)->0<=m->m<=N->(∀y∈l,0<=fm n y/\fm n y<=N)->0<=l.foldl (λm y=>max m (fm n y)) m/\l.foldl (λm y=>max m (fm n y)) m<=N
 | [],_,h0,h1,_=>⟨h0,h1⟩
 | y::l,m,h0,h1,h=>by
  have c:=h y (by simp);exact pB N l (max m (fm n y)) (by omega) (by omega) (λb a=>h b (by simp[a]))
theorem jH{n:Nat}(l:List (Tm n))(y:Tm n)(c:y∈l):(av n y).length<=(l.flatMap λy=>av n y).length:=by
 obtain⟨a,d⟩:=cJ c;have b:=Ey (λy=>av n y) l (a+1);rw[Gw _ l a y d,bf]at b;omega
theorem fN:(n:Nat)->(x:Tm n)->0<=fm n x/\fm n x<=(av n x).length
 | 0,_=>by simp[fm]
 | n+1,x=>by
  have e:=pB ((x.2.2.flatMap λy=>av n y).length:Int) x.2.2 0 (by omega) (by omega) (λy b=>by
   have c:=fN n y;have d:=jH x.2.2 y b
   omega)
  simp only[fm,av,aZ];by_cases a:x.1.1=4
  ·rw[if_pos a];omega
  ·rw[if_neg a];omega
theorem zP(n:Nat)(p:List (Tm n))(k:Nat):0<=sg n p k/\sg n p k<=(p.flatMap λy=>av n y).length:=
 pB _ (p.take k) 0 (by omega) (by omega) (λy a=>by
  have b:=fN n y;have c:=jH p y (List.mem_of_mem_take a)
  omega)
def Nz(n:Nat):Prop:=∀(x:Tm n)(B:Nat)(w:World),In B w n x->B<=w.heap.size->(av n x).length<=2097152->
 ak 80 #[df n x] w λe w'=>e=.returned (ab (fm n x))/\ai w w'
theorem Ce(b d:Int)(s:ByteArray)(a:Option Addr)(len pc:Nat)(w:World)(c:¬b=4):ak 80 #[.agg #[ab b,ab d,ae s,.slice a len pc]] w λe w'=>e=.returned (ab 0)/\ai w w':=by
 have f:(b !=4)=true:=by simpa using c
 clear c;go_enter Tryz.func80,Tryz.ntmps80;go_wp2_with fail
 go_ret
 exact⟨rfl,(am _ _).alloc (aj _) _⟩
theorem Fa(n:Nat)(ih:Nz n)(P:Int)(s:ByteArray)(a:Option Addr)(pc len:Nat)(p:List (Tm n))(E:Hid (p.length=len))(B:Nat)(w:World)(h:Hid (p=[]\/∃b o,a=some ⟨b,o,none⟩/\b<B/\∀(i:Nat)(y:Tm n),p[i]?=some y->dr w b (o+i*4) n y/\In B w n y))(T:len<=9223372036854775807)(u:B<=w.heap.size)(O:Hid (1+(p.flatMap λy=>av n y).length<=2097152)):ak 80 #[.agg #[ab 4,ab P,ae s,.slice a len pc]] w λe w'=> e=.returned (ab (1+p.foldl (λm y=>max m (fm n y)) 0))/\ai w w':=by
 go_enter Tryz.func80,Tryz.ntmps80;go_wp2_with fail;go_loopw [3,12] (λt i wr=>∃k:Nat,∃d:Int,k<=len/\i=ab k/\t=ab d/\Hid (d=sg n p k)/\ai w wr) (λ_ i _=>len-(intOf i).toNat)
 case atStart=>exact⟨0,0,by omega,rfl,rfl,by simp[Hid,sg],(am _ _).alloc (aj _) _⟩
 case round=>
  obtain⟨k,d,Q,rfl,rfl,v,f⟩:=hrel;have r:=zP n p k;rw[<-v.out]at r;have K:=O.out;have V:0<=d:=r.1;have W:d<=2097152:=by omega
  clear r;by_cases M:k<len
  ·obtain⟨c,j⟩:∃c,p[k]?=some c:=⟨p[k]'(by rw[E.out];exact M),aE _⟩;have I:=ao (Cd n p k c j);have J:=jH p c (aG j);have F:(av n c).length<=2097152:=by omega
   clear J K;rcases h.out with h|⟨U,po,rfl,N,h⟩
   ·subst h;simp at j
   obtain⟨l,q⟩:=h k c j;replace l:=l.below (f.mono u) N;replace q:=q.below (f.mono u);clear h j;cases n with
   | zero=>exact l.elim
   | succ n=>
   obtain⟨X,Y,Z,aa⟩:=l;have A:B<=wr.heap.size:=ax u f.size
   have G:Hid (∀g,ai wr g->ak 80 #[.agg #[ab c.1.1,ab c.1.2.1,ae c.1.2.2,.slice c.2.1.1 c.2.2.length c.2.1.2]] g λe w'=>e=.returned (ab (fm (n+1) c))/\ai g w'):=
    λg z=>ih c B g (q.below (z.mono A)) (ax A z.size) F
   clear ih q F;generalize c.2.2.length=ad at*;generalize fm (n+1) c=x at*;have R:(0:Int)<=(k:Int):=by omega
   have S:(k:Int)<(len:Int):=by omega
   go_wp2_with fail;refine(G.out _ ((am _ _).alloc (aj _) _)).mono ?_;rintro e g ⟨rfl,C⟩;have L:ai w g:=(f.trans (((am _ _).alloc (aj _) _).mono f.size)).trans (C.mono (by have:=f.size;simp;omega));clear C;have D:max d x=if d<x then x else d:=by split<;>omega
   have H:=ao D;clear D;go_wp2_with fail;go_roundw
   case rel=>exact⟨k+1,_,by omega,by go_num,rfl,by simp only[Hid];rw[I.out,<-v.out,H.out],L⟩
   case measure=>simp[intOf];omega
  ·go_wp2_with fail
   go_ret
   refine⟨iP ?_,f⟩;rw[v.out];unfold sg;rw[bw (by rw[E.out];omega)]
theorem E9(n:Nat):Nz n:=by
 induction n with
 | zero=>intro o i b g;exact g.elim
 | succ n ih=>
  intro o i b g q m;obtain⟨⟨k,e,d⟩,⟨c,pc⟩,a⟩:=o;obtain⟨⟨_,_,_,s,l⟩,j⟩:=g;simp only at s l j;unfold maxLen at l;have r:(av (n+1) ((k,e,d),(c,pc),a)).length=1+(a.flatMap λh=>av n h).length:=by simp only[av,aZ];omega
  rw[r]at m;show ak 80 #[.agg #[ab k,ab e,ae d,.slice c a.length pc]] b λp u=>p=.returned (ab (if k=4 then 1+a.foldl (λt h=>max t (fm n h)) 0 else 0))/\ai b u;by_cases f:k=4
  ·subst f;exact Fa n ih e d c pc a.length a rfl i b j (by omega) q m
  ·rw[if_neg f];exact Ce k e d c a.length pc b f
def pd(n:Nat)(p:List (Tm n))(k:Nat):Int:=1+p.length+((p.take k).map λy=>sz n y).sum
theorem Dx(n:Nat)(p:List (Tm n))(k:Nat)(x:Tm n)(b:p[k]?=some x):pd n p (k+1)=pd n p k+sz n x:=by
 obtain⟨c,a⟩:=aM.1 b;unfold pd;rw[oI c,a];simp;omega
theorem Gv(n:Nat)(l:List (Tm n)):(l.map λy=>1+sz n y).sum=l.length+(l.map λy=>sz n y).sum:=by
 induction l with
 | nil=>simp
 | cons y l ih=>simp only[aI,bC,aZ,ih];omega
theorem GK(n:Nat)(p:List (Tm n))(k:Nat)(a:p.length<=k):pd n p k=1+(p.map λy=>1+sz n y).sum:=by
 unfold pd;rw[bw a,Gv];omega
theorem we(n:Nat)(p:List (Tm n)):p.length<=(p.flatMap λy=>av n y).length:=by
 induction p with
 | nil=>simp
 | cons y l ih=>
  have:1<=(av n y).length:=by cases n<;>simp[av]
  simp only[bv,bf,aZ];omega
theorem Bu(n:Nat)(p:List (Tm n))(k:Nat):0<=pd n p k/\pd n p k<=3*(1+(p.flatMap λy=>av n y).length:Int):=by
 have b:=we n p;have a:=Ey (λy=>av n y) p k;have key:∀l:List (Tm n),0<=(l.map λy=>sz n y).sum/\(l.map λy=>sz n y).sum<=2*((l.flatMap λy=>av n y).length:Int):=by
  intro l
  induction l with
  | nil=>exact⟨by simp,by simp⟩
  | cons y l ih=>
   have c:=eH n y;simp only[aI,bC,bv,bf];exact⟨by omega,by omega⟩
 have k:=key (p.take k);unfold pd;exact⟨by omega,by omega⟩
def OF(n:Nat):Prop:=∀(x:Tm n)(B:Nat)(w:World),In B w n x->B<=w.heap.size->(av n x).length<=2097152->
 ak 81 #[df n x] w λe w'=>e=.returned (ab (sz n x))/\ai w w'
theorem Dv(b d:Int)(s:ByteArray)(a:Option Addr)(len pc:Nat)(w:World)(c:¬b=4):ak 81 #[.agg #[ab b,ab d,ae s,.slice a len pc]] w λe w'=>e=.returned (ab 0)/\ai w w':=by
 have f:(b !=4)=true:=by simpa using c
 clear c;go_enter Tryz.func81,Tryz.ntmps81;go_wp2_with fail
 go_ret
 exact⟨rfl,(am _ _).alloc (aj _) _⟩
theorem GJ(n:Nat)(ih:OF n)(M:Int)(s:ByteArray)(a:Option Addr)(pc len:Nat)(p:List (Tm n))(l:Hid (p.length=len))(B:Nat)(w:World)(g:Hid (p=[]\/∃b o,a=some ⟨b,o,none⟩/\b<B/\∀(i:Nat)(y:Tm n),p[i]?=some y->dr w b (o+i*4) n y/\In B w n y))(v:B<=w.heap.size)(D:Hid (1+(p.flatMap λy=>av n y).length<=2097152)):ak 81 #[.agg #[ab 4,ab M,ae s,.slice a len pc]] w λe w'=> e=.returned (ab (1+(p.map λy=>1+sz n y).sum))/\ai w w':=by
 have S:len<=2097152:=by have u:=we n p;have O:=D.out;rw[<-l.out];omega
 go_enter Tryz.func81,Tryz.ntmps81;go_wp2_with fail;go_loopw [3,16] (λt i wr=>∃k:Nat,∃h:Int,k<=len/\i=ab k/\t=ab h/\Hid (h=pd n p k)/\ai w wr) (λ_ i _=>len-(intOf i).toNat)
 case atStart=>exact⟨0,1+len,by omega,rfl,rfl,by simp only[Hid,pd];rw[l.out];simp,(am _ _).alloc (aj _) _⟩
 case round=>
  obtain⟨k,h,P,rfl,rfl,x,d⟩:=hrel;have r:=Bu n p k;rw[<-x.out]at r;have I:=D.out;have U:0<=h:=r.1;have V:h<=6291456:=by omega
  clear r;by_cases K:k<len
  ·obtain⟨c,j⟩:∃c,p[k]?=some c:=⟨p[k]'(by rw[l.out];exact K),aE _⟩;have G:=ao (Dx n p k c j);have H:=jH p c (aG j);have E:(av n c).length<=2097152:=by omega
   have z:=eH n c;have ad:0<=sz n c:=z.1;have af:sz n c<=4194304:=by omega
   clear H I z;rcases g.out with g|⟨T,po,rfl,L,g⟩
   ·subst g;simp at j
   obtain⟨m,q⟩:=g k c j;replace m:=m.below (d.mono v) L;replace q:=q.below (d.mono v);clear g j;cases n with
   | zero=>exact m.elim
   | succ n=>
   obtain⟨W,X,Y,Z⟩:=m;have A:B<=wr.heap.size:=ax v d.size
   have F:Hid (∀f,ai wr f->ak 81 #[.agg #[ab c.1.1,ab c.1.2.1,ae c.1.2.2,.slice c.2.1.1 c.2.2.length c.2.1.2]] f λe w'=>e=.returned (ab (sz (n+1) c))/\ai f w'):=
    λf u=>ih c B f (q.below (u.mono A)) (ax A u.size) E
   clear ih q E;generalize c.2.2.length=aa at*;generalize sz (n+1) c=N at*;have Q:(0:Int)<=(k:Int):=by omega
   have R:(k:Int)<(len:Int):=by omega
   go_wp2_with fail;refine(F.out _ ((am _ _).alloc (aj _) _)).mono ?_;rintro e f ⟨rfl,C⟩;have J:ai w f:=(d.trans (((am _ _).alloc (aj _) _).mono d.size)).trans (C.mono (by have:=d.size;simp;omega));clear C;go_wp2_with fail;go_roundw
   case rel=>exact⟨k+1,h+N,by omega,by go_num,by go_num,by simp only[Hid];rw[G.out,<-x.out],J⟩
   case measure=>simp[intOf];omega
  ·go_wp2_with fail
   go_ret
   refine⟨iP ?_,d⟩;rw[x.out,GK n p k (by rw[l.out];omega)]
theorem xg(n:Nat):OF n:=by
 induction n with
 | zero=>intro m i b g;exact g.elim
 | succ n ih=>
  intro m i b g p l;obtain⟨⟨k,e,d⟩,⟨c,pc⟩,a⟩:=m;obtain⟨⟨_,_,_,s,r⟩,j⟩:=g;simp only at s r j;have q:(av (n+1) ((k,e,d),(c,pc),a)).length=1+(a.flatMap λh=>av n h).length:=by simp only[av,aZ];omega
  rw[q]at l;show ak 81 #[.agg #[ab k,ab e,ae d,.slice c a.length pc]] b λo t=>o=.returned (ab (if k=4 then 1+(a.map λh=>1+sz n h).sum else 0))/\ai b t;by_cases f:k=4
  ·subst f;exact GJ n ih e d c pc a.length a rfl i b j p l
  ·rw[if_neg f];exact Dv k e d c a.length pc b f
theorem Bq(w:World)(k g:Int)(s:ByteArray)(a:Option Addr)(l c:Nat)(j:Bool)(d n:Int)(D:Hid (∀w1,ai w w1->ak 79 #[.agg #[ab k,ab g,ae s,.slice a l c]] w1 λe w'=>e=.returned (.bool j)/\ai w1 w'))(C:Hid (∀w1,ai w w1->ak 80 #[.agg #[ab k,ab g,ae s,.slice a l c]] w1 λe w'=>e=.returned (ab d)/\ai w1 w'))(E:Hid (∀w1,ai w w1->ak 81 #[.agg #[ab k,ab g,ae s,.slice a l c]] w1 λe w'=>e=.returned (ab n)/\ai w1 w')):ak 51 #[.agg #[ab k,ab g,ae s,.slice a l c]] w λe w'=>e=.returned (ab (if j then if 12<d\/200<n then 2 else 0 else 5))/\ai w w':=by
 generalize A:(if j then if 12<d\/200<n then (2:Int)else 0 else 5)=I;have i:=ao A;clear A;go_enter Tryz.func51,Tryz.ntmps51;go_wp2_with fail;refine(D.out _ ((am _ _).alloc (aj _) _)).mono ?_;rintro e w1 ⟨rfl,m⟩;have f:Hid (ai w w1/\w.heap.size+1<=w1.heap.size):=⟨((am _ _).alloc (aj _) _).trans (m.mono (by simp)),by have:=m.size;simpa using this⟩;have b:=ap m;simp only[gK]at b;have t:=(b w.heap.size 0 (by omega)).trans (by simp[go_sem]:_=some (Value.int .i64 k));have u:=(b w.heap.size 1 (by omega)).trans (by simp[go_sem]:_=some (Value.int .i64 g));have v:=(b w.heap.size 2 (by omega)).trans (by simp[go_sem]:_=some (Value.string s));have x:=(b w.heap.size 3 (by omega)).trans (by simp[go_sem]:_=some (Value.slice a l c));clear b m;cases j with
 | false=>
  go_wp2_with fail
  go_ret
  exact⟨iP (by rw[<-i.out];rfl),f.out.1⟩
 | true=>
  go_wp2_with fail;refine(C.out _ f.out.1).mono ?_;rintro e G ⟨rfl,q⟩;have h:Hid (ai w G):=f.out.1.trans (q.mono f.out.1.size);have b:=ap q;have F:=f.out.2;replace t:=(b w.heap.size 0 (by omega)).trans t;replace u:=(b w.heap.size 1 (by omega)).trans u;replace v:=(b w.heap.size 2 (by omega)).trans v;replace x:=(b w.heap.size 3 (by omega)).trans x;clear b q F;by_cases y:12<d
  ·have o:=ao y;go_wp2_with fail
   go_ret
   exact⟨iP (by rw[<-i.out,if_pos trivial,if_pos (ag o.out)]),h.out⟩
  ·have o:=ao y;go_wp2_with fail;refine(E.out _ h.out).mono ?_;rintro e H ⟨rfl,z⟩;have r:Hid (ai w H):=h.out.trans (z.mono h.out.size);clear z;by_cases B:200<n
   ·have p:=ao B;go_wp2_with fail
    go_ret
    exact⟨iP (by rw[<-i.out,if_pos trivial,if_pos (ah p.out)]),r.out⟩
   ·have p:=ao B;go_wp2_with fail
    go_ret
    exact⟨iP (by rw[<-i.out,if_pos trivial,if_neg (by have:=o.out;have:=p.out;omega)]),r.out⟩
def vH(n:Nat)(x:Tm n):Int:=if bT n x then if 12<fm n x\/200<sz n x then 2 else 0 else 5
theorem Bp(n:Nat)(x:Tm n)(B:Nat)(w:World)(d:In B w n x)(b:B<=w.heap.size)(f:(av n x).length<=2097152):ak 51 #[df n x] w λe w'=>e=.returned (ab (vH n x))/\ai w w':=by
 cases n with
 | zero=>exact d.elim
 | succ n=>
 exact Bq w x.1.1 x.1.2.1 x.1.2.2 x.2.1.1 x.2.2.length x.2.1.2 (bT (n+1) x) (fm (n+1) x) (sz (n+1) x)
  (λc a=>Ck (n+1) x B c (d.below (a.mono b)) (ax b a.size))
  (λc a=>E9 (n+1) x B c (d.below (a.mono b)) (ax b a.size) f)
  (λc a=>xg (n+1) x B c (d.below (a.mono b)) (ax b a.size) f)
theorem kQ:(n:Nat)->(x:Tm n)->bT n x=(av n x).all cq
 | 0,_=>by simp[bT,av,cq]
 | n+1,x=>by
  have e:(av (n+1) x).all cq=(cq (bu n x) && (x.2.2.flatMap λy=>av n y).all cq):=rfl;rw[e];simp only[bT];cases hg:cq (bu n x)
  ·rfl
  ·rw[dZ,dZ];by_cases b:x.1.1=4
   ·rw[b];have key:∀l:List (Tm n),(l.all λy=>bT n y)=(l.flatMap λy=>av n y).all cq:=by
     intro l
     induction l with
     | nil=>rfl
     | cons y l ih=>simp only[iK,bv,jV,ih,kQ n y]
    rw[key];simp
   ·have c:x.2.2=[]:=by
      unfold cq at hg;simp only[aB,g9,bV]at hg;rcases hg.2 with a|a
      ·exact(b a).elim
      ·have:¬(0:Int)<(x.2.2.length:Int):=by simpa [bu]using a
       exact bB (by omega)
    rw[c];simp
def mX:List Nd->List Int->Int->Int
 | x::l,d::ds,m=>mX l ds (mC x d m)
 | _,_,m=>m
theorem zC(g:Int):(l:List Nd)->(b:List Int)->(m:Int)->l.length=b.length->B8 g l b m=if l.all cq then (if 12<mX l b m\/200<g then 2 else 0)else 5
 | [],_,_,_=>rfl
 | x::l,[],_,a=>by simp at a
 | x::l,d::b,m,a=>by
  have ih:=zC g l b (mC x d m) (by simpa using a);simp only[B8,mX];by_cases f:cq x=true
  ·have e:(x::l).all cq=l.all cq:=by simp[f]
   rw[if_pos f,ih];by_cases c:l.all cq=true
   ·rw[if_pos c,if_pos (e.trans c)];rfl
   ·rw[if_neg c,if_neg (λa=>c (e.symm.trans a))]
  ·rw[if_neg f,if_neg (λa=>f (b9.1 a x (by simp)))]
theorem qs:(l r:List Nd)->(a es:List Int)->(m:Int)->l.length=a.length->mX (l++r) (a++es) m=mX r es (mX l a m)
 | [],_,[],_,_,_=>rfl
 | [],_,_::_,_,_,h=>by simp at h
 | _::_,_,[],_,_,h=>by simp at h
 | x::l,r,d::a,es,m,h=>by
  simp only[fG,mX];exact qs l r a es _ (by simpa using h)
theorem Aa{n:Nat}(c:Int):(p:List (Tm n))->(m e:Int)->p.foldl (λm y=>max m (c+fm n y)) (max m (c+e))=max m (c+p.foldl (λm y=>max m (fm n y)) e)
 | [],_,_=>rfl
 | y::p,m,e=>by
  simp only[ge];have a:max (max m (c+e)) (c+fm n y)=max m (c+max e (fm n y)):=by omega
  rw[a];exact Aa c p m (max e (fm n y))
theorem zN:(n:Nat)->(x:Tm n)->(d m:Int)->(∀a∈av n x,cq a=true)->d<=m->mX (av n x) (oY n x d) m=max m (d+fm n x)
 | 0,x,_,_,h,_=>by
  have:=h ((0,0,.empty),(none,0,0)) (by simp[av]);rcases jM _ this with g|g|g|g|g|⟨g,_⟩<;>simp at g
 | n+1,x,d,m,h,k=>by
  have f:=h (bu n x) (by simp[av,bu]);have key:∀(p:List (Tm n))(m:Int),(∀y∈p,y∈x.2.2)->d+1<=m->mX (p.flatMap λy=>av n y) (p.flatMap λy=>oY n y (d+1)) m=p.foldl (λm y=>max m (d+1+fm n y)) m:=by
   intro p
   induction p with
   | nil=>intro m _ _;rfl
   | cons y p ih=>
    intro m l k;simp only[bv,ge];rw[qs _ _ _ _ _ (jE n y (d+1)).symm,zN n y (d+1) m (λa q=>h a (ol (l y (by simp)) q)) k];exact ih _ (λu t=>l u (by simp[t])) (by omega)
  have o:mX (av (n+1) x) (oY (n+1) x d) m=mX (x.2.2.flatMap λy=>av n y) (x.2.2.flatMap λy=>oY n y (d+1)) (mC (bu n x) d m):=rfl;rw[o];simp only[fm];by_cases b:x.1.1=4
  ·rw[if_pos b];have c:mC (bu n x) d m=max m (d+1+0):=by
    unfold mC bu;by_cases j:m<d+1
    ·rw[if_pos ⟨b,j⟩];omega
    ·rw[if_neg (λi=>j i.2)];omega
   rw[c,key x.2.2 _ (λ_ s=>s) (by omega),Aa];omega
  ·rw[if_neg b];have r:x.2.2=[]:=by
    unfold cq at f;simp only[aB,g9,bV]at f;rcases f.2 with e|e
    ·exact(b e).elim
    ·have:¬(0:Int)<(x.2.2.length:Int):=by simpa [bu]using e
     exact bB (by omega)
   have c:mC (bu n x) d m=m:=E8 _ (λi=>b i.1);rw[r,c];simp only[List.flatMap_nil,mX];omega
theorem fZ(n:Nat)(x:Tm n):vH n x=bq n x:=by
 unfold vH bq;rw[zC _ _ _ _ (jE n x 0).symm,<-kQ n x];by_cases a:bT n x=true
 ·rw[if_pos a,if_pos a];have d:∀b∈av n x,cq b=true:=by
   rw[kQ n x]at a;exact λb c=>b9.1 a b c
  have e:=fN n x;rw[zN n x 0 0 d (by omega)];have:max (0:Int) (0+fm n x)=fm n x:=by omega
  rw[this]
 ·rw[if_neg a,if_neg a]
theorem dB(n:Nat)(x:Tm n)(B:Nat)(w:World)(c:In B w n x)(a:B<=w.heap.size)(b:(av n x).length<=2097152):ak 51 #[df n x] w λe w'=>e=.returned (ab (bq n x))/\ai w w':=by
 rw[<-fZ];exact Bp n x B w c a b
end Go.Proofs.YtckamaoibonjcaaGreat
