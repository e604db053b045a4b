/- What is proved here: plain facts and contracts that the claimed theorem stands on. No condition but those that each names. -/
import Derived.Test.YtckamaoibonjcaaGreatG04
import Derived.Deep.RegionHeld3
import Derived.Deep.DrawnRows
namespace Go.Proofs.YtckamaoibonjcaaGreat
open Go.RowKit
set_option maxHeartbeats 400000
def bV(P:Nat->Prop):(n:Nat)->Tm n->Prop
 | 0,_=>False
 | n+1,x=>x.2.2=[]\/∃b o,x.2.1.1=some ⟨b,o,none⟩/\P b/\∀(i:Nat)(y:Tm n),x.2.2[i]?=some y->bV P n y
theorem bV.mono{P Q:Nat->Prop}(a:∀b,P b->Q b):{n:Nat}->{x:Tm n}->bV P n x->bV Q n x
 | 0,_,k=>k
 | _+1,_,k=>by
  rcases k with k|⟨b,o,e,c,k⟩
  ·exact ae k
  ·exact af ⟨b,o,e,a b c,λi y d=>(k i y d).mono a⟩
theorem bk{w w':World}{b:Nat}(a:w'.heap[b]?=w.heap[b]?)(o:Nat):w'.cell? ⟨b,o,none⟩=w.cell? ⟨b,o,none⟩:=by
 simp[World.cell?,a]
theorem dy.block{w w':World}{b o:Nat}(a:w'.heap[b]?=w.heap[b]?):{n:Nat}->{x:Tm n}->dy w b o n x->dy w' b o n x
 | 0,_,k=>k
 | _+1,_,k=>by
  obtain⟨c,d,e,f⟩:=k;exact⟨(bk a _).trans c,(bk a _).trans d,(bk a _).trans e,(bk a _).trans f⟩
theorem In.off{P:Nat->Prop}{w w':World}(f:∀b,P b->w'.heap[b]?=w.heap[b]?){B:Nat}:{n:Nat}->{x:Tm n}->bV P n x->In B w n x->In B w' n x
 | 0,_,_,k=>k
 | _+1,_,p,k=>by
  obtain⟨m,a⟩:=k;refine⟨m,?_⟩;rcases a with a|⟨b,o,e,j,a⟩
  ·exact ae a
  ·rcases p with p|⟨q,r,c,l,p⟩
   ·exact ae p
   ·rw[e]at c;injection c with c;injection c with g h;subst g h;exact af ⟨b,o,e,j,λi y d=>⟨(a i y d).1.block (f b l),(a i y d).2.off f (p i y d)⟩⟩
theorem In.offB{P:Nat->Prop}{B:Nat}{w:World}:{n:Nat}->{x:Tm n}->bV P n x->In B w n x->bV (λb=>P b/\b<B) n x
 | 0,_,p,_=>p
 | _+1,_,p,k=>by
  obtain⟨_,a⟩:=k;rcases p with p|⟨b,o,e,h,p⟩
  ·exact ae p
  ·rcases a with a|⟨l,m,c,j,a⟩
   ·exact ae a
   ·rw[e]at c;injection c with c;injection c with f g;subst f g;exact af ⟨b,o,e,⟨h,j⟩,λi y d=>In.offB (p i y d) (a i y d).2⟩
def fQ:(n:Nat)->Tm n->Nd
 | 0,_=>((0,0,⟨#[]⟩),(none,0,0))
 | n+1,x=>bu n x
theorem KC{w:World}{base g c L:Nat}{n:Nat}{l:List (Tm (n+1))}(a:w.ownsRow base 30 4 (.slice (some ⟨g,0,none⟩) L c) L (ch (l.map (fQ (n+1)))))(k:Nat)(x:Tm (n+1))(d:l[k]?=some x):dy w g (0+k*4) (n+1) x:=by
 have b:=CJ a k (fQ (n+1) x) (by simp[d]);rw[cN];exact b
def p7(base:Nat)(n:Nat)(l:List (Tm n))(v:Value)(w:World):Prop:=
 w.ownsRow base 30 4 v l.length (ch (l.map (fQ n)))/\∀a∈l,In w.heap.size w n a/\bV (λb=>base<=b/\v.ownBlock≠some b) n a
theorem p7.tup{base n:Nat}{l:List (Tm (n+1))}{v:Value}{w:World}(m:p7 base (n+1) l v w):∃a c,v=.slice a l.length c/\bV (λb=>base<=b) (n+2) ((4,0,⟨#[]⟩),(a,c),l)/\In w.heap.size w (n+2) ((4,0,⟨#[]⟩),(a,c),l):=by
 obtain⟨i,j⟩:=m;have d:dh 4/\dh 0/\(⟨#[]⟩:ByteArray).size<=maxLen:=⟨⟨by omega,by omega⟩,⟨by omega,by omega⟩,aB _⟩;have e:=i;obtain⟨y,e⟩:=e;rcases e with⟨e,o⟩|⟨f,cap,x,rfl,r,s,q,u,A,z⟩
 ·have:l=[]:=bD o;subst this;refine⟨none,0,by rw[e];rfl,ae rfl,⟨d.1,d.2.1,d.2.2,aB _,aB _⟩,ae rfl⟩
 ·have t:f<w.heap.size:=(aA.1 s).1;refine⟨some ⟨f,0,none⟩,cap,rfl,af ⟨f,0,rfl,r,λk h g=>((j h (aC g)).2).mono λb p=>p.1⟩,⟨d.1,d.2.1,d.2.2,q,u⟩,af ⟨f,0,rfl,t,λk h g=>⟨KC i k h g,(j h (aC g)).1⟩⟩⟩
def r9(a:An):Nd:=fQ a.1 a.2
def fF(l:List An):List Value:=ch (l.map r9)
theorem kj(l:List An):(fF l).length=l.length*4:=by simp[fF,nw]
theorem zb(l:List An):∀a∈fF l,a.oneCell'=true:=sf _
def mn(base:Nat)(g c:Nat)(b:List An)(w:World):Prop:=w.ownsRow base 30 4 (.slice (some ⟨g,0,none⟩) b.length c) b.length (fF b)
theorem mn.cells{base g c:Nat}{b:List An}{w:World}(a:mn base g c b w)(i:Nat)(y:An)(d:b[i]?=some y):w.cell? ⟨g,i*4,none⟩=some (.int .i64 (r9 y).1.1)/\w.cell? ⟨g,i*4+1,none⟩=some (.int .i64 (r9 y).1.2.1)/\w.cell? ⟨g,i*4+2,none⟩=some (.string (r9 y).1.2.2)/\w.cell? ⟨g,i*4+3,none⟩=some (.slice (r9 y).2.1 (r9 y).2.2.1 (r9 y).2.2.2):=
 CJ (l:=b.map r9) a i (r9 y) (by simp[d])
theorem mn.lt{base g c:Nat}{b:List An}{w:World}(a:mn base g c b w):base<=g/\g<w.heap.size:=World.ownsRow.lt a g rfl
theorem mn.kept{base g c:Nat}{b:List An}{w w':World}(d:mn base g c b w){row:Option Nat}(e:w.grownBy w' row)(f:row≠some g):mn base g c b w':=
 oH d e (af λa=>f a.symm)
theorem cF{w w':World}(a:ag w w')(row:Option Nat):w.grownBy w' row:=⟨a.os,a.tape,a.output,a.size,λk b _=>a.block k b⟩
theorem mn.below{base g c:Nat}{b:List An}{w w':World}(a:mn base g c b w)(d:ag w w'):mn base g c b w':=a.kept (cF d none) (by simp)
theorem ns{w w':World}{g B:Nat}(a:w.grownBy w' (some g))(b:B<=g)(c:g<w.heap.size):Below B w w':=⟨a.os,a.tape,a.output,a.size,λk d=>a.block k (by omega) (by simp;omega)⟩
theorem kN{w w1 w2:World}{row:Option Nat}(a:w.grownBy w1 row)(k:w1.grownBy w2 row):w.grownBy w2 row:=
 ⟨k.os.trans a.os,k.tape.trans a.tape,k.output.trans a.output,aw a.size k.size,λb c d=>(k.block b (aJ c a.size) d).trans (a.block b c d)⟩
theorem mn.free{base g c:Nat}{b:List An}{w:World}(e:mn base g c b w)(j:Nat):w.frozen? ⟨g,j,none⟩=false:=by
 obtain⟨n,d⟩:=e;rcases d with⟨d,_⟩|⟨m,cap,i,h,q,f,o,r,s,p⟩
 ·simp at d
 ·injection h with a k l;injection a with a;injection a with a _;subst a;simp[World.frozen?,f]
def cE(w:World)(g o:Nat)(v0 v1 v2 v3:Value):World:=(((w.setCell ⟨g,o,none⟩ v0).setCell ⟨g,o+1,none⟩ v1).setCell ⟨g,o+2,none⟩ v2).setCell ⟨g,o+3,none⟩ v3
def iT(w:World)(g o:Nat)(x:Nd):World:=cE w g o (.int .i64 x.1.1) (.int .i64 x.1.2.1) (.string x.1.2.2) (.slice x.2.1 x.2.2.1 x.2.2.2)
theorem iN{w:World}{base e size g L c:Nat}{xs:List Value}(i:w.ownsRow base e size (.slice (some ⟨g,0,none⟩) L c) L xs)(j:Nat)(d:Value):(w.setCell ⟨g,j,none⟩ d).ownsRow base e size (.slice (some ⟨g,0,none⟩) L c) L (xs.set j d):=by
 obtain⟨k,b⟩:=i;refine⟨by simpa using k,?_⟩;rcases b with⟨b,_⟩|⟨t,cap,f,q,n,o,l,p,r,m⟩
 ·simp at b
 ·injection q with a s h;injection a with a;injection a with a _;subst a h;refine af ⟨g,c,f.setIfInBounds j d,rfl,n,?_,l,p,by simpa using r,?_⟩
  ·simp[World.setCell,bC,o]
  ·rw[<-m];simp[List.take_set]
theorem sg:(l:List Nd)->(i:Nat)->(x:Nd)->i<l.length-> ((((ch l).set (i*4) (.int .i64 x.1.1)).set (i*4+1) (.int .i64 x.1.2.1)).set (i*4+2) (.string x.1.2.2)).set (i*4+3) (.slice x.2.1 x.2.2.1 x.2.2.2)=ch (l.set i x)
 | [],i,x,h=>by simp at h
 | y::l,0,x,_=>by simp[ch,ur]
 | y::l,i+1,x,h=>by
  have ih:=sg l i x (by simpa using h);have e:ch (y::l)=ur y++ch l:=rfl;have b:ch ((y::l).set (i+1) x)=ur y++ch (l.set i x):=rfl;have a:(ur y).length=4:=rfl;rw[e,b,<-ih];rw[gW _ _ (by rw[a];omega),gW _ _ (by rw[a];omega),gW _ _ (by rw[a];omega),gW _ _ (by rw[a];omega),a];rw[show (i+1)*4-4=i*4 by omega,show (i+1)*4+1-4=i*4+1 by omega,show (i+1)*4+2-4=i*4+2 by omega,show (i+1)*4+3-4=i*4+3 by omega]
theorem mn.put{base g c:Nat}{b:List An}{w:World}(d:mn base g c b w)(i:Nat)(t:An)(e:i<b.length):mn base g c (b.set i t) (iT w g (i*4) (r9 t)):=by
 have a:=iN (iN (iN (iN d (i*4) (.int .i64 (r9 t).1.1)) (i*4+1) (.int .i64 (r9 t).1.2.1)) (i*4+2) (.string (r9 t).1.2.2)) (i*4+3) (.slice (r9 t).2.1 (r9 t).2.2.1 (r9 t).2.2.2);unfold fF at a;rw[sg (b.map r9) i (r9 t) (by simpa using e)]at a;unfold mn fF;rw[List.map_set,List.length_set];exact a
theorem aR{w:World}{g b o:Nat}(c:b≠g)(v0 v1 v2 v3:Value):(cE w g o v0 v1 v2 v3).heap[b]?=w.heap[b]? :=by
 have d:g≠b:=λa=>c a.symm;simp[cE,World.setCell,bC,d]
theorem bf{w:World}{g o:Nat}(v0 v1 v2 v3:Value):(cE w g o v0 v1 v2 v3).heap.size=w.heap.size:=by simp[cE,World.setCell]
theorem CS{w:World}{g o:Nat}(v0 v1 v2 v3:Value):w.grownBy (cE w g o v0 v1 v2 v3) (some g):=
 ⟨rfl,rfl,rfl,dk (bf _ _ _ _).symm,λk _ b=>aR (λa=>b (by rw[a])) _ _ _ _⟩
theorem DF{w w':World}{v0 v1 v2 v3:Value}{t:TypeId}(c:Below (w.alloc (.cells #[v0,v1,v2,v3] t)).heap.size (w.alloc (.cells #[v0,v1,v2,v3] t)) w'):(w'.cell? ⟨w.heap.size,0,none⟩=some v0/\w'.cell? ⟨w.heap.size,1,none⟩=some v1/\w'.cell? ⟨w.heap.size,2,none⟩=some v2/\w'.cell? ⟨w.heap.size,3,none⟩=some v3)/\ (w'.frozen? ⟨w.heap.size,0,none⟩=false/\w'.frozen? ⟨w.heap.size,1,none⟩=false/\w'.frozen? ⟨w.heap.size,2,none⟩=false/\w'.frozen? ⟨w.heap.size,3,none⟩=false):=by
 have a:=λo=>c.cell (p:=⟨w.heap.size,o,none⟩) (by simp);have b:=λo=>c.frozen (p:=⟨w.heap.size,o,none⟩) (by simp);exact⟨⟨(a 0).trans (by simp[go_sem]),(a 1).trans (by simp[go_sem]),(a 2).trans (by simp[go_sem]),(a 3).trans (by simp[go_sem])⟩,(b 0).trans (by simp[go_sem]),(b 1).trans (by simp[go_sem]),(b 2).trans (by simp[go_sem]),(b 3).trans (by simp[go_sem])⟩
theorem nh{w1 w2:World}{q:Nat}{c d e f:Value}(b:q<w1.heap.size)(l:ag w1 w2)(k:w1.cell? ⟨q,0,none⟩=some c/\w1.cell? ⟨q,1,none⟩=some d/\w1.cell? ⟨q,2,none⟩=some e/\w1.cell? ⟨q,3,none⟩=some f):w2.cell? ⟨q,0,none⟩=some c/\w2.cell? ⟨q,1,none⟩=some d/\w2.cell? ⟨q,2,none⟩=some e/\w2.cell? ⟨q,3,none⟩=some f:=by
 obtain⟨g,h,i,j⟩:=k;have a:=am l;exact⟨(a _ _ b).trans g,(a _ _ b).trans h,(a _ _ b).trans i,(a _ _ b).trans j⟩
def en(base g c:Nat)(o:Option (List An))(w:World)(e:Ending)(w':World):Prop:=
 e=.returned (.bool o.isSome)/\w.grownBy w' (some g)/\∀b,o=some b->mn base g c b w'
def BD(B:Nat)(w:World)(b:List An):Prop:=b.length=4/\∀y∈b,Eu B w y/\av y
theorem Eu.below{B:Nat}{w w':World}(a:Below B w w'){x:An}(k:Eu B w x):Eu B w' x:=In.below a k
theorem BD.below{B:Nat}{w w':World}(c:Below B w w'){b:List An}(k:BD B w b):BD B w' b:=⟨k.1,λy a=>⟨(k.2 y a).1.below c,(k.2 y a).2⟩⟩
theorem BD.fit{B:Nat}{w:World}{b a:List An}(k:BD B w b){n m:Nat}{p:Tm n}{t:Tm m}(f:In B w m t)(e:av ⟨m,t⟩)(d:gG n p m t b=some a):BD B w a:=
 ko (λc=>Eu B w c/\av c) (FN (IT B w) aN) n p m t ⟨f,e⟩ b a k d
def LZ(n:Nat):Prop:=∀(p:Tm n)(m:Nat)(t:Tm m)(b:List An)(base g c B:Nat)(w:World),In B w n p->In B w m t->av ⟨n,p⟩->av ⟨m,t⟩->BD B w b->B<=base->mn base g c b w->
 ah 160 #[.slice (some ⟨g,0,none⟩) 4 c,dd n p,dd m t] w (en base g c (gG n p m t b) w)
theorem tJ(x y:Int)(w:World):ah 178 #[.int .i64 x,.int .i64 y] w λe w'=>e=.returned (.int .i64 (nj x y))/\w'=w:=by
 go_enter Tryz.func178,Tryz.ntmps178;go_wp2
 all_goals go_ret
 all_goals refine⟨iL ?_,rfl⟩
 all_goals unfold nj
 all_goals (repeat' split)<;>omega
theorem Hb(x y:ByteArray)(w:World):ah 179 #[.string x,.string y] w λe w'=>e=.returned (.int .i64 (vf x y))/\w'=w:=by
 go_enter Tryz.func179,Tryz.ntmps179;go_wp2
 all_goals go_ret
 all_goals refine⟨iL ?_,rfl⟩
 all_goals unfold vf
 all_goals simp[*]
attribute [local go_sem ↓] Go.wp_at_zero Go.wp_at_succ
def F5(n:Nat):Prop:=∀(x:Tm n)(m:Nat)(y:Tm m)(B:Nat)(w:World),In B w n x->In B w m y->B<=w.heap.size->
 ah 173 #[dd n x,dd m y] w λe w'=>e=.returned (.int .i64 (wb n x m y))/\ag w w'
theorem Kc(p q:Nat)(a c:Option Addr)(pc d:Nat)(w:World)(_hpc:p<=9223372036854775807)(_hqc:q<=9223372036854775807)(b:((p:Int)==(q:Int))=false):ah 180 #[.slice a p pc,.slice c q d] w λe w'=>e=.returned (.int .i64 (nj p q))/\w'=w:=by
 have f:((p:Int) !=(q:Int))=true:=by simpa using b
 go_enter Tryz.func180,Tryz.ntmps180;go_wp2_with (go_at_call 178;refine(tJ _ _ _).mono ?_;rintro e w' ⟨rfl,rfl⟩)
 go_ret
 exact⟨rfl,rfl⟩
theorem Kb(n m:Nat)(ih:F5 n)(p:List (Tm n))(q:List (Tm m))(len:Nat)(M:Hid (p.length=len))(V:Hid (q.length=len))(g po h l pc X:Nat)(B:Nat)(w:World)(ae:len<=9223372036854775807)(T:g<B)(U:h<B)(L:∀(i:Nat)(y:Tm n),p[i]?=some y->dy w g (po+i*4) n y/\In B w n y)(N:∀(i:Nat)(y:Tm m),q[i]?=some y->dy w h (l+i*4) m y/\In B w m y)(o:B<=w.heap.size):ah 180 #[.slice (some ⟨g,po,none⟩) len pc,.slice (some ⟨h,l,none⟩) len X] w λe w'=> e=.returned (.int .i64 (oO (λa b=>wb n a m b) p q))/\ag w w':=by
 go_enter Tryz.func180,Tryz.ntmps180;go_wp2_with fail;go_loopw [19] (λi wr=>∃k:Nat,k<=len/\i=.int .i64 k/\ag w wr/\Hid (oO (λa b=>wb n a m b) (p.drop k) (q.drop k)=oO (λa b=>wb n a m b) p q)) (λi _=>len-(intOf i).toNat)
 case atStart=>exact⟨0,by omega,rfl,ak _ _,rfl⟩
 case round=>
  obtain⟨k,aa,rfl,f,z⟩:=hrel;by_cases K:k<len
  ·obtain⟨c,A⟩:∃c,p[k]?=some c:=⟨p[k]'(by rw[M.out];exact K),aD _⟩;obtain⟨y,C⟩:∃y,q[k]?=some y:=⟨q[k]'(by rw[V.out];exact K),aD _⟩;obtain⟨s,t⟩:=L k c A;obtain⟨u,v⟩:=N k y C;have E:Hid (oO (λa b=>wb n a m b) (p.drop k) (q.drop k)=if wb n c m y=0 then oO (λa b=>wb n a m b) (p.drop (k+1)) (q.drop (k+1))else wb n c m y):=FH (λa b=>wb n a m b) p q k c y A C;replace s:=s.below (f.mono o) T;replace u:=u.below (f.mono o) U;replace t:=t.below (f.mono o);replace v:=v.below (f.mono o);clear L N A C;cases n with
   | zero=>exact s.elim
   | succ n=>
   cases m with
   | zero=>exact u.elim
   | succ m=>
   obtain⟨al,an,ao,ap⟩:=s;obtain⟨y0,y1,y2,aq⟩:=u;have J:∀(d:World),In B d (n+1) c->In B d (m+1) y->B<=d.heap.size->ah 173 #[.agg #[.int .i64 c.1.1,.int .i64 c.1.2.1,.string c.1.2.2,.slice c.2.1.1 c.2.2.length c.2.1.2],.agg #[.int .i64 y.1.1,.int .i64 y.1.2.1,.string y.1.2.2,.slice y.2.1.1 y.2.2.length y.2.1.2]] d λe w'=>e=.returned (.int .i64 (wb (n+1) c (m+1) y))/\ag d w':=λd P Q R=>ih c (m+1) y B d P Q R;have D:=aj J;clear J ih;have F:=aj t;have G:=aj v;clear t v;generalize wb (n+1) c (m+1) y=r at*;generalize c.2.2.length=Y at*;generalize y.2.2.length=yl at*;have ab:(0:Int)<=(k:Int):=by omega
   have ad:(k:Int)<(len:Int):=by omega
   have S:B<=wr.heap.size:=aw o f.size;have O:=aj (D.out wr.drew (F.out.below (ak _ _).drew) (G.out.below (ak _ _).drew) S);have af:g<wr.heap.size:=by omega
   have ai:h<wr.heap.size:=by omega
   clear D F G;go_wp2_with fail
   go_region_held3 (λw'=>w'.cell? ⟨g,po+k*4,none⟩=some (.int .i64 c.1.1)/\w'.cell? ⟨g,po+k*4+1,none⟩=some (.int .i64 c.1.2.1)/\w'.cell? ⟨g,po+k*4+2,none⟩=some (.string c.1.2.2)/\w'.cell? ⟨g,po+k*4+3,none⟩=some (.slice c.2.1.1 Y c.2.1.2)
       /\w'.cell? ⟨h,l+k*4,none⟩=some (.int .i64 y.1.1)/\w'.cell? ⟨h,l+k*4+1,none⟩=some (.int .i64 y.1.2.1)/\w'.cell? ⟨h,l+k*4+2,none⟩=some (.string y.1.2.2)/\w'.cell? ⟨h,l+k*4+3,none⟩=some (.slice y.2.1.1 yl y.2.1.2))
    (go_keep) ((go_at_call 173;refine O.out.mono ?_;rintro e d ⟨rfl,H⟩;have Z:=am (cB H)))
   have I:ag w d:=f.trans ((cB H).mono f.size);by_cases j:r=0
   ·have x:Hid (r=0):=j;have W:(r !=0)=false:=by rw[j];rfl
    clear j;go_wp2_with fail;go_roundw
    case rel=>exact⟨k+1,by omega,by go_num,I,by rw[<-z.out,E.out,if_pos x.out];rfl⟩
    case measure=>simp[intOf];omega
   ·have x:Hid (¬r=0):=j;have W:(r !=0)=true:=by simpa using j
    clear j;go_wp2_with fail
    go_ret
    exact⟨iL (by rw[<-z.out,E.out,if_neg x.out]),I⟩
  ·go_wp2_with fail
   go_ret
   refine⟨iL ?_,f⟩;rw[<-z.out,ja (by rw[M.out];omega)];rfl
theorem zi(n m:Nat)(a c:Option Addr)(pc d:Nat)(w:World):ah 180 #[.slice a ([]:List (Tm n)).length pc,.slice c ([]:List (Tm m)).length d] w λe w'=>e=.returned (.int .i64 (oO (λa b=>wb n a m b) [] []))/\ag w w':=by
 show ah 180 #[.slice a 0 pc,.slice c 0 d] w λe w'=>e=.returned (.int .i64 0)/\ag w w';go_enter Tryz.func180,Tryz.ntmps180;go_wp2_with fail
 go_loop [19] (λf=>f=.int .i64 0) (λ_=>0)
 case atStart=>rfl
 case round=>
  obtain rfl:=hrel;go_wp2_with fail
  go_ret
  exact⟨rfl,ak _ _⟩
theorem CI(w:World)(k b h i:Int)(s g:ByteArray)(a c:Option Addr)(pl f pc d:Nat)(e:¬k=b):ah 173 #[.agg #[.int .i64 k,.int .i64 h,.string s,.slice a pl pc],.agg #[.int .i64 b,.int .i64 i,.string g,.slice c f d]] w λe w'=>e=.returned (.int .i64 (nj k b))/\ag w w':=by
 have j:(k !=b)=true:=by simpa using e
 clear e;go_enter Tryz.func173,Tryz.ntmps173;go_wp2_with (go_at_call 178;refine(tJ _ _ _).mono ?_;rintro e w' ⟨rfl,rfl⟩)
 go_ret
 exact⟨rfl,((ak _ _).alloc (ai _) _).alloc (by simp) _⟩
theorem rC(w:World)(k d f:Int)(s c:ByteArray)(a g:Option Addr)(pl i pc h:Nat)(r:Int)(b:k=1\/k=3\/k=5):ah 173 #[.agg #[.int .i64 k,.int .i64 d,.string s,.slice a pl pc],.agg #[.int .i64 k,.int .i64 f,.string c,.slice g i h]] w λe w'=>e=.returned (.int .i64 (if k=1\/k=3\/k=5 then nj d f else if k=2 then vf s c else if k=4 then r else 0))/\ag w w':=by
 rw[if_pos b];rcases b with rfl|rfl|rfl
 all_goals
  go_enter Tryz.func173,Tryz.ntmps173;go_wp2_with (go_at_call 178;refine(tJ _ _ _).mono ?_;rintro e w' ⟨rfl,rfl⟩)
  go_ret
  exact⟨rfl,((ak _ _).alloc (ai _) _).alloc (by simp) _⟩
theorem FJ(w:World)(g h:Int)(s b:ByteArray)(a c:Option Addr)(pl f pc d:Nat):ah 173 #[.agg #[.int .i64 2,.int .i64 g,.string s,.slice a pl pc],.agg #[.int .i64 2,.int .i64 h,.string b,.slice c f d]] w λe w'=>e=.returned (.int .i64 (vf s b))/\ag w w':=by
 go_enter Tryz.func173,Tryz.ntmps173;go_wp2_with (go_at_call 179;refine(Hb _ _ _).mono ?_;rintro e w' ⟨rfl,rfl⟩)
 go_ret
 exact⟨rfl,((ak _ _).alloc (ai _) _).alloc (by simp) _⟩
theorem CH(w:World)(k m n:Int)(s l:ByteArray)(a h:Option Addr)(pl j pc i:Nat)(b:¬k=1)(c:¬k=2)(d:¬k=3)(f:¬k=4)(g:¬k=5):ah 173 #[.agg #[.int .i64 k,.int .i64 m,.string s,.slice a pl pc],.agg #[.int .i64 k,.int .i64 n,.string l,.slice h j i]] w λe w'=>e=.returned (.int .i64 0)/\ag w w':=by
 have o:(k==1)=false:=by simpa using b
 have p:(k==2)=false:=by simpa using c
 have q:(k==3)=false:=by simpa using d
 have r:(k==4)=false:=by simpa using f
 have t:(k==5)=false:=by simpa using g
 clear b c d f g;go_enter Tryz.func173,Tryz.ntmps173;go_wp2_with fail
 go_ret
 exact⟨rfl,((ak _ _).alloc (ai _) _).alloc (by simp) _⟩
theorem FK(w:World)(j k:Int)(s i:ByteArray)(a b:Option Addr)(pl f pc d:Nat)(r:Int)(c:∀w1:World,ag w w1->ah 180 #[.slice a pl pc,.slice b f d] w1 λe w'=>e=.returned (.int .i64 r)/\ag w1 w'):ah 173 #[.agg #[.int .i64 4,.int .i64 j,.string s,.slice a pl pc],.agg #[.int .i64 4,.int .i64 k,.string i,.slice b f d]] w λe w'=>e=.returned (.int .i64 r)/\ag w w':=by
 have g:=aj c;clear c;go_enter Tryz.func173,Tryz.ntmps173;go_wp2_with fail;refine(g.out _ (((ak _ _).alloc (ai _) _).alloc (by simp) _)).mono ?_;rintro e w' ⟨rfl,h⟩;go_wp2_with fail
 go_ret
 exact⟨rfl,(((ak _ _).alloc (ai _) _).alloc (by simp) _).trans (h.mono (by simp;omega))⟩
theorem FI(n:Nat):F5 n:=by
 induction n with
 | zero=>intro U h t H g G;exact G.elim
 | succ n ih=>
  intro U h t H g G r w;cases h with
  | zero=>exact r.elim
  | succ h=>
  obtain⟨⟨k,l,i⟩,⟨a,pc⟩,c⟩:=U;obtain⟨⟨z,m,j⟩,⟨f,e⟩,d⟩:=t;obtain⟨⟨M,Y,S,P,E⟩,p⟩:=G;obtain⟨⟨N,Z,T,R,F⟩,q⟩:=r;simp only at M Y S P E p N Z T R F q
  show ah 173 #[.agg #[.int .i64 k,.int .i64 l,.string i,.slice a c.length pc],.agg #[.int .i64 z,.int .i64 m,.string j,.slice f d.length e]] g λo B=>o=.returned (.int .i64 (if k=z then
   if k=1\/k=3\/k=5 then nj l m else if k=2 then vf i j else if k=4 then if c.length=d.length then oO (λa b=>wb n a h b) c d else nj c.length d.length
   else 0 else nj k z))/\ag g B
  have V:∀s:World,ag g s->ah 180 #[.slice a c.length pc,.slice f d.length e] s λo B=>o=.returned (.int .i64 (if c.length=d.length then oO (λa b=>wb n a h b) c d else nj c.length d.length))/\ag s B:=by
   intro s x;unfold maxLen at E F;by_cases u:c.length=d.length
   ·rw[if_pos u];rcases p with p|⟨aa,po,rfl,O,p⟩
    ·subst p;have X:d=[]:=bD u.symm;subst X;exact zi n h a f pc e s
    ·rcases q with q|⟨ab,ad,rfl,Q,q⟩
     ·subst q;have W:c=[]:=bD u;subst W;exact zi n h _ f pc e s
     ·have L:=Kb n h ih c d c.length rfl u.symm aa po ab ad pc e H s (by omega) O Q (λy t r=>⟨(p y t r).1.below (x.mono w) O,(p y t r).2.below (x.mono w)⟩)
        (λy t r=>⟨(q y t r).1.below (x.mono w) Q,(q y t r).2.below (x.mono w)⟩) (aw w x.size)
      rw[u]at L;rw[u];exact L
   ·rw[if_neg u];refine(Kc c.length d.length a f pc e s (by omega) (by omega) (by simp;omega)).mono ?_;rintro o B ⟨rfl,rfl⟩;exact⟨rfl,ak _ _⟩
  generalize (if c.length=d.length then oO (λa b=>wb n a h b) c d else nj c.length d.length)=A at*;clear p q ih P E R F S T w;generalize c.length=pl at*;generalize d.length=v at*;obtain⟨ai,al⟩:=M;obtain⟨aj,am⟩:=N;by_cases o:k=z
  ·subst o;rw[if_pos rfl];by_cases I:k=1
   ·subst I;exact rC g 1 l m i j a f pl v pc e A (ae rfl)
   by_cases J:k=3
   ·subst J;exact rC g 3 l m i j a f pl v pc e A (af (ae rfl))
   by_cases K:k=5
   ·subst K;exact rC g 5 l m i j a f pl v pc e A (af (af rfl))
   rw[if_neg (by omega)];by_cases C:k=2
   ·subst C;exact FJ g l m i j a f pl v pc e
   rw[if_neg C];by_cases D:k=4
   ·subst D;exact FK g l m i j a f pl v pc e A V
   rw[if_neg D];exact CH g k l m i j a f pl v pc e I C J D K
  ·rw[if_neg o];exact CI g k z l m i j a f pl v pc e o
theorem iQ(k b:Int)(s:ByteArray)(a:Option Addr)(l c:Nat)(w:World):ah 170 #[.agg #[.int .i64 k,.int .i64 b,.string s,.slice a l c]] w λe w'=>e=.returned (.bool (!(k==6)))/\ag w w':=by
 cases h:k==6
 all_goals
  go_enter Tryz.func170,Tryz.ntmps170;go_wp2_with fail
  go_ret
  exact⟨ft (by simp[bne,h]),(ak _ _).alloc (ai _) _⟩
theorem AH(x:An)(y:An)(B:Nat)(w:World)(d:Eu B w x)(f:Eu B w y)(b:B<=w.heap.size)(g:av x)(h:av y):ah 173 #[dd x.1 x.2,dd y.1 y.2] w λe w'=>∃r,e=.returned (.int .i64 r)/\Hid ((r==0)=dO x y)/\ag w w':=by
 refine(FI x.1 x.2 y.1 y.2 B w d f b).mono ?_;rintro e w' ⟨rfl,c⟩;refine⟨_,rfl,?_,c⟩;have a:=AG x.1 x.2 y.1 y.2 g h;unfold Hid dO;cases hs:au x.1 x.2 y.1 y.2
 ·rw[hs]at a;simp only[oo,iff_false]at a;simpa using a
 ·rw[hs]at a;simp only[iff_true]at a;simpa using a
theorem Ib(b:List An)(base g c B:Nat)(w:World)(k:Nat)(K:k<4)(m:Nat)(t:Tm (m+1))(y:BD B w b)(M:In B w (m+1) t)(L:av ⟨m+1,t⟩)(Y:B<=base)(H:mn base g c b w):ah 171 #[.slice (some ⟨g,0,none⟩) 4 c,.int .i64 k,.agg #[.int .i64 t.1.1,.int .i64 t.1.2.1,.string t.1.2.2,.slice t.2.1.1 t.2.2.length t.2.1.2]] w (en base g c (tQ b k ⟨m+1,t⟩) w):=by
 obtain⟨a,v⟩:∃a,b[k]?=some a:=⟨b[k]'(by rw[y.1];exact K),aD _⟩;obtain⟨E,N⟩:=y.2 a (aC v);obtain⟨n,a⟩:=a;cases n with
 | zero=>exact E.elim
 | succ n=>
 have D:Hid (tQ b k ⟨m+1,t⟩=if a.1.1=6 then some (b.set k ⟨m+1,t⟩)else if dO ⟨n+1,a⟩ ⟨m+1,t⟩then some b else none):=by simp only[Hid,tQ,v,bK];rfl
 obtain⟨j,l,p,q⟩:=H.cells k _ v;simp only[r9,fQ,bu]at j l p q;have ae:(0:Int)<=(k:Int):=by omega
 have af:(k:Int)<4:=by omega
 have A:=aj H;have I:=aj v;have R:g<w.heap.size:=H.lt.2;clear v H;generalize tQ b k ⟨m+1,t⟩=o at*;cases h6:a.1.1==6
 case true=>
  go_enter Tryz.func171,Tryz.ntmps171;go_wp2_with fail;refine(iQ _ _ _ _ _ _ _).mono ?_;rintro h e ⟨rfl,d⟩;have f:=aj d;clear j l p q;have r:Hid (mn base g c b e):=(A.out.kept (cV w _ none) (by simp)).below d;have aa:=λS=>r.out.free S;obtain⟨⟨U,V,W,X⟩,_⟩:=DF d;obtain⟨j,l,p,q⟩:=r.out.cells k _ I.out;simp only[r9,fQ,bu]at j l p q;clear d;go_wp2_with fail
  go_ret
  have s:o=some (b.set k ⟨m+1,t⟩):=by rw[D.out,if_pos (by simpa using h6)]
  subst s;exact⟨rfl,kN (cF (((ak _ _).alloc (ai _) _).trans (f.out.mono (by simp))) _) (CS _ _ _ _),λJ h=>by obtain rfl:=aq h;exact r.out.put k ⟨m+1,t⟩ (by rw[y.1];exact K)⟩
 case false=>
  go_enter Tryz.func171,Tryz.ntmps171;go_wp2_with fail;refine(iQ _ _ _ _ _ _ _).mono ?_;rintro h e ⟨rfl,d⟩;clear j l p q;have f:Hid (ag w e):=((ak _ _).alloc (ai _) _).trans (d.mono (by simp));have r:Hid (mn base g c b e):=(A.out.kept (cV w _ none) (by simp)).below d;obtain⟨⟨U,V,W,X⟩,_⟩:=DF d;obtain⟨j,l,p,q⟩:=r.out.cells k _ I.out;simp only[r9,fQ,bu]at j l p q;have z:Hid (B<=w.heap.size):=by have:=A.out.lt;unfold Hid;omega
  have P:Hid (w.heap.size<e.heap.size):=by have:=d.size;simp at this;unfold Hid;omega
  have F:Hid (Eu B e ⟨n+1,a⟩/\Eu B e ⟨m+1,t⟩):=⟨E.below (f.out.mono z.out),Eu.below (x:=⟨m+1,t⟩) (f.out.mono z.out) M⟩;have Q:=aj (AH ⟨n+1,a⟩ ⟨m+1,t⟩ B e.drew (F.out.1.below (ak _ _).drew) (F.out.2.below (ak _ _).drew) (aw z.out f.out.size) N L);clear d M E y N L;go_wp2_with fail
  go_region_held3 (λi=>i.cell? ⟨g,k*4,none⟩=some (.int .i64 a.1.1)/\i.cell? ⟨g,k*4+1,none⟩=some (.int .i64 a.1.2.1)/\i.cell? ⟨g,k*4+2,none⟩=some (.string a.1.2.2)/\i.cell? ⟨g,k*4+3,none⟩=some (.slice a.2.1.1 a.2.2.length a.2.1.2)
        /\i.cell? ⟨w.heap.size,0,none⟩=some (.int .i64 t.1.1)/\i.cell? ⟨w.heap.size,1,none⟩=some (.int .i64 t.1.2.1)/\i.cell? ⟨w.heap.size,2,none⟩=some (.string t.1.2.2)/\i.cell? ⟨w.heap.size,3,none⟩=some (.slice t.2.1.1 t.2.2.length t.2.1.2))
      (go_keep) ((go_at_call 173;refine Q.out.mono ?_;rintro h O ⟨T,rfl,G,u⟩;have Z:=am (cB u);have ab:g<e.heap.size:=aJ R f.out.size;have ad:w.heap.size<e.heap.size:=P.out))
  replace u:=cB u;have C:Hid (w.grownBy O (some g)/\mn base g c b O):=⟨cF (f.out.trans (u.mono f.out.size)) _,r.out.below u⟩;have s:o=if dO ⟨n+1,a⟩ ⟨m+1,t⟩then some b else none:=by rw[D.out,if_neg (by simpa using h6)]
  rw[<-G.out]at s;clear G D;cases h0:T==0
  all_goals
   rw[h0]at s;go_wp2_with fail
   go_ret
   simp only[oo,if_false,cH]at s;subst s
  ·exact⟨rfl,C.out.1,λJ h=>by cases h⟩
  ·exact⟨rfl,C.out.1,λJ h=>by obtain rfl:=aq h;exact C.out.2⟩
def Jf(x:Nd):Bool:= !(x.1.1==5) && !(x.1.1==6)
def jD(n:Nat)(x:Tm n):Bool:=(ar n x).all Jf
def aF:(n:Nat)->Tm n->Bool
 | 0,_=>true
 | n+1,x=> !(x.1.1==5) && !(x.1.1==6) && x.2.2.all λy=>aF n y
theorem eT:(n:Nat)->(x:Tm n)->aF n x=jD n x
 | 0,_=>by simp[aF,jD,ar,Jf]
 | n+1,x=>by
  have key:∀l:List (Tm n),(l.all λy=>aF n y)=(l.flatMap λy=>ar n y).all Jf:=by
   intro l
   induction l with
   | nil=>rfl
   | cons y l ih=>
    have:=eT n y;unfold jD at this;simp only[iE,bv,jV,ih,this]
  show (!(x.1.1==5) && !(x.1.1==6) && x.2.2.all λy=>aF n y)=(Jf (x.1,(x.2.1.1,x.2.2.length,x.2.1.2)) && (x.2.2.flatMap λy=>ar n y).all Jf);rw[key];rfl
def M6(n:Nat):Prop:=∀(x:Tm n)(B:Nat)(w:World),In B w n x->B<=w.heap.size->
 ah 52 #[dd n x] w λe w'=>e=.returned (.bool (aF n x))/\ag w w'
theorem zy(n:Nat)(ih:M6 n)(h I:Int)(s:ByteArray)(a:Option Addr)(pc len:Nat)(p:List (Tm n))(C:Hid (p.length=len))(B:Nat)(w:World)(g:Hid (p=[]\/∃b o,a=some ⟨b,o,none⟩/\b<B/\∀(i:Nat)(y:Tm n),p[i]?=some y->dy w b (o+i*4) n y/\In B w n y))(M:len<=9223372036854775807)(r:B<=w.heap.size):ah 52 #[.agg #[.int .i64 h,.int .i64 I,.string s,.slice a len pc]] w λe w'=>e=.returned (.bool (!(h==5) && !(h==6) && p.all λy=>aF n y))/\ag w w':=by
 cases h5:h==5
 case true=>
  go_enter Tryz.func52,Tryz.ntmps52;go_wp2_with fail
  go_ret
  exact⟨bG (by simp),(ak _ _).alloc (ai _) _⟩
 cases h6:h==6
 case true=>
  go_enter Tryz.func52,Tryz.ntmps52;go_wp2_with fail
  go_ret
  exact⟨bG (by simp),(ak _ _).alloc (ai _) _⟩
 have v:(!false && !false && p.all λy=>aF n y)=p.all λy=>aF n y:=by simp
 rw[v];clear v;go_enter Tryz.func52,Tryz.ntmps52;go_wp2_with fail;go_loopw [16] (λi wr=>∃k:Nat,k<=len/\i=.int .i64 k/\ag w wr/\Hid (((p.drop k).all λy=>aF n y)=p.all λy=>aF n y)) (λi _=>len-(intOf i).toNat)
 case atStart=>exact⟨0,by omega,rfl,(ak _ _).alloc (ai _) _,rfl⟩
 case round=>
  obtain⟨k,J,rfl,d,t⟩:=hrel;by_cases F:k<len
  ·obtain⟨c,l⟩:∃c,p[k]?=some c:=⟨p[k]'(by rw[C.out];exact F),aD _⟩;have u:Hid (((p.drop k).all λy=>aF n y)=(aF n c && (p.drop (k+1)).all λy=>aF n y)):=by
    obtain⟨j,E⟩:=aL.1 l;rw[eP j,E];rfl
   rcases g.out with g|⟨N,po,rfl,G,g⟩
   ·subst g;simp at l
   obtain⟨m,q⟩:=g k c l;replace m:=m.below (d.mono r) G;replace q:=q.below (d.mono r);clear g l;cases n with
   | zero=>exact m.elim
   | succ n=>
   obtain⟨O,P,Q,R⟩:=m;have x:B<=wr.heap.size:=aw r d.size
   have D:Hid (∀f,ag wr f->ah 52 #[.agg #[.int .i64 c.1.1,.int .i64 c.1.2.1,.string c.1.2.2,.slice c.2.1.1 c.2.2.length c.2.1.2]] f λe w'=>e=.returned (.bool (aF (n+1) c))/\ag f w'):=
    λf j=>ih c B f (q.below (j.mono x)) (aw x j.size)
   clear ih q;generalize c.2.2.length=S at*;generalize aF (n+1) c=H at*;have K:(0:Int)<=(k:Int):=by omega
   have L:(k:Int)<(len:Int):=by omega
   go_wp2_with fail;refine(D.out _ ((ak _ _).alloc (ai _) _)).mono ?_;rintro e f ⟨rfl,z⟩;have A:ag w f:=(d.trans (((ak _ _).alloc (ai _) _).mono d.size)).trans (z.mono (by have:=d.size;simp;omega));clear z;cases H with
   | true=>
    go_wp2_with fail;go_roundw
    case rel=>exact⟨k+1,by omega,by go_num,A,by rw[<-t.out,u.out];rfl⟩
    case measure=>simp[intOf];omega
   | false=>
    go_wp2_with fail
    go_ret
    exact⟨bG (by rw[<-t.out,u.out];rfl),A⟩
  ·go_wp2_with fail
   go_ret
   refine⟨bG ?_,d⟩;rw[<-t.out,ja (by rw[C.out];omega)];rfl
theorem ie(n:Nat):M6 n:=by
 induction n with
 | zero=>intro g b f a;exact a.elim
 | succ n ih=>
  intro g b f a i;obtain⟨⟨k,m,l⟩,⟨h,pc⟩,e⟩:=g;obtain⟨⟨_,_,_,j,d⟩,c⟩:=a;simp only at j d c;unfold maxLen at d;exact zy n ih k m l h pc e.length e rfl b f c (by omega) i
def eW:(n:Nat)->Tm n->Int
 | 0,_=>0
 | n+1,x=>if x.1.1=4 then 1+x.2.2.foldl (λm y=>max m (eW n y)) 0 else 0
def rW(n:Nat)(p:List (Tm n))(k:Nat):Int:=(p.take k).foldl (λm y=>max m (eW n y)) 0
theorem BZ(n:Nat)(p:List (Tm n))(k:Nat)(x:Tm n)(b:p[k]?=some x):rW n p (k+1)=max (rW n p k) (eW n x):=by
 obtain⟨c,a⟩:=aL.1 b;unfold rW;rw[oC c,a,lZ];rfl
theorem pu{n:Nat}(N:Int):(l:List (Tm n))->(m:Int)->0<=m->m<=N->(∀y∈l,0<=eW n y/\eW n y<=N)->0<=l.foldl (λm y=>max m (eW n y)) m/\l.foldl (λm y=>max m (eW n y)) m<=N
 | [],_,h0,h1,_=>⟨h0,h1⟩
 | y::l,m,h0,h1,h=>by
  have c:=h y (by simp);exact pu N l (max m (eW n y)) (by omega) (by omega) (λb a=>h b (by simp[a]))
theorem jH{n:Nat}(l:List (Tm n))(y:Tm n)(c:y∈l):(ar n y).length<=(l.flatMap λy=>ar n y).length:=by
 obtain⟨a,d⟩:=cM c;have b:=En (λy=>ar n y) l (a+1);rw[Ge _ l a y d,aY]at b;omega
theorem fH:(n:Nat)->(x:Tm n)->0<=eW n x/\eW n x<=(ar n x).length
 | 0,_=>by simp[eW]
 | n+1,x=>by
  have e:=pu ((x.2.2.flatMap λy=>ar n y).length:Int) x.2.2 0 (by omega) (by omega) (λy b=>by
   have c:=fH n y;have d:=jH x.2.2 y b
   omega)
  simp only[eW,ar,aV];by_cases a:x.1.1=4
  ·rw[if_pos a];omega
  ·rw[if_neg a];omega
theorem zG(n:Nat)(p:List (Tm n))(k:Nat):0<=rW n p k/\rW n p k<=(p.flatMap λy=>ar n y).length:=
 pu _ (p.take k) 0 (by omega) (by omega) (λy a=>by
  have b:=fH n y;have c:=jH p y (List.mem_of_mem_take a)
  omega)
def M7(n:Nat):Prop:=∀(x:Tm n)(B:Nat)(w:World),In B w n x->B<=w.heap.size->(ar n x).length<=2097152->
 ah 80 #[dd n x] w λe w'=>e=.returned (.int .i64 (eW n x))/\ag w w'
theorem B4(b d:Int)(s:ByteArray)(a:Option Addr)(len pc:Nat)(w:World)(c:¬b=4):ah 80 #[.agg #[.int .i64 b,.int .i64 d,.string s,.slice a len pc]] w λe w'=>e=.returned (.int .i64 0)/\ag w w':=by
 have f:(b !=4)=true:=by simpa using c
 clear c;go_enter Tryz.func80,Tryz.ntmps80;go_wp2_with fail
 go_ret
 exact⟨rfl,(ak _ _).alloc (ai _) _⟩
theorem ES(n:Nat)(ih:M7 n)(P:Int)(s:ByteArray)(a:Option Addr)(pc len:Nat)(p:List (Tm n))(E:Hid (p.length=len))(B:Nat)(w:World)(h:Hid (p=[]\/∃b o,a=some ⟨b,o,none⟩/\b<B/\∀(i:Nat)(y:Tm n),p[i]?=some y->dy w b (o+i*4) n y/\In B w n y))(T:len<=9223372036854775807)(u:B<=w.heap.size)(O:Hid (1+(p.flatMap λy=>ar n y).length<=2097152)):ah 80 #[.agg #[.int .i64 4,.int .i64 P,.string s,.slice a len pc]] w λe w'=> e=.returned (.int .i64 (1+p.foldl (λm y=>max m (eW n y)) 0))/\ag w w':=by
 go_enter Tryz.func80,Tryz.ntmps80;go_wp2_with fail;go_loopw [3,12] (λt i wr=>∃k:Nat,∃d:Int,k<=len/\i=.int .i64 k/\t=.int .i64 d/\Hid (d=rW n p k)/\ag w wr) (λ_ i _=>len-(intOf i).toNat)
 case atStart=>exact⟨0,0,by omega,rfl,rfl,by simp[Hid,rW],(ak _ _).alloc (ai _) _⟩
 case round=>
  obtain⟨k,d,Q,rfl,rfl,v,f⟩:=hrel;have r:=zG n p k;rw[<-v.out]at r;have K:=O.out;have V:0<=d:=r.1;have W:d<=2097152:=by omega
  clear r;by_cases M:k<len
  ·obtain⟨c,j⟩:∃c,p[k]?=some c:=⟨p[k]'(by rw[E.out];exact M),aD _⟩;have I:=aj (BZ n p k c j);have J:=jH p c (aC j);have F:(ar n c).length<=2097152:=by omega
   clear J K;rcases h.out with h|⟨U,po,rfl,N,h⟩
   ·subst h;simp at j
   obtain⟨l,q⟩:=h k c j;replace l:=l.below (f.mono u) N;replace q:=q.below (f.mono u);clear h j;cases n with
   | zero=>exact l.elim
   | succ n=>
   obtain⟨X,Y,Z,aa⟩:=l;have A:B<=wr.heap.size:=aw u f.size
   have G:Hid (∀g,ag wr g->ah 80 #[.agg #[.int .i64 c.1.1,.int .i64 c.1.2.1,.string c.1.2.2,.slice c.2.1.1 c.2.2.length c.2.1.2]] g λe w'=>e=.returned (.int .i64 (eW (n+1) c))/\ag g w'):=
    λg z=>ih c B g (q.below (z.mono A)) (aw A z.size) F
   clear ih q F;generalize c.2.2.length=ab at*;generalize eW (n+1) c=x at*;have R:(0:Int)<=(k:Int):=by omega
   have S:(k:Int)<(len:Int):=by omega
   go_wp2_with fail;refine(G.out _ ((ak _ _).alloc (ai _) _)).mono ?_;rintro e g ⟨rfl,C⟩;have L:ag w g:=(f.trans (((ak _ _).alloc (ai _) _).mono f.size)).trans (C.mono (by have:=f.size;simp;omega));clear C;have D:max d x=if d<x then x else d:=by split<;>omega
   have H:=aj D;clear D;go_wp2_with fail;go_roundw
   case rel=>exact⟨k+1,_,by omega,by go_num,rfl,by simp only[Hid];rw[I.out,<-v.out,H.out],L⟩
   case measure=>simp[intOf];omega
  ·go_wp2_with fail
   go_ret
   refine⟨iL ?_,f⟩;rw[v.out];unfold rW;rw[bw (by rw[E.out];omega)]
theorem ER(n:Nat):M7 n:=by
 induction n with
 | zero=>intro o i b g;exact g.elim
 | succ n ih=>
  intro o i b g q m;obtain⟨⟨k,e,d⟩,⟨c,pc⟩,a⟩:=o;obtain⟨⟨_,_,_,s,l⟩,j⟩:=g;simp only at s l j;unfold maxLen at l;have r:(ar (n+1) ((k,e,d),(c,pc),a)).length=1+(a.flatMap λh=>ar n h).length:=by simp only[ar,aV];omega
  rw[r]at m;show ah 80 #[.agg #[.int .i64 k,.int .i64 e,.string d,.slice c a.length pc]] b λp u=>p=.returned (.int .i64 (if k=4 then 1+a.foldl (λt h=>max t (eW n h)) 0 else 0))/\ag b u;by_cases f:k=4
  ·subst f;exact ES n ih e d c pc a.length a rfl i b j (by omega) q m
  ·rw[if_neg f];exact B4 k e d c a.length pc b f
def oX(n:Nat)(p:List (Tm n))(k:Nat):Int:=1+p.length+((p.take k).map λy=>sz n y).sum
theorem Dn(n:Nat)(p:List (Tm n))(k:Nat)(x:Tm n)(b:p[k]?=some x):oX n p (k+1)=oX n p k+sz n x:=by
 obtain⟨c,a⟩:=aL.1 b;unfold oX;rw[oC c,a];simp;omega
theorem Gd(n:Nat)(l:List (Tm n)):(l.map λy=>1+sz n y).sum=l.length+(l.map λy=>sz n y).sum:=by
 induction l with
 | nil=>simp
 | cons y l ih=>simp only[aH,bq,aV,ih];omega
theorem Gr(n:Nat)(p:List (Tm n))(k:Nat)(a:p.length<=k):oX n p k=1+(p.map λy=>1+sz n y).sum:=by
 unfold oX;rw[bw a,Gd];omega
theorem vR(n:Nat)(p:List (Tm n)):p.length<=(p.flatMap λy=>ar n y).length:=by
 induction p with
 | nil=>simp
 | cons y l ih=>
  have:1<=(ar n y).length:=by cases n<;>simp[ar]
  simp only[bv,aY,aV];omega
theorem Bl(n:Nat)(p:List (Tm n))(k:Nat):0<=oX n p k/\oX n p k<=3*(1+(p.flatMap λy=>ar n y).length:Int):=by
 have b:=vR n p;have a:=En (λy=>ar n y) p k;have key:∀l:List (Tm n),0<=(l.map λy=>sz n y).sum/\(l.map λy=>sz n y).sum<=2*((l.flatMap λy=>ar n y).length:Int):=by
  intro l
  induction l with
  | nil=>exact⟨by simp,by simp⟩
  | cons y l ih=>
   have c:=ey n y;simp only[aH,bq,bv,aY];exact⟨by omega,by omega⟩
 have k:=key (p.take k);unfold oX;exact⟨by omega,by omega⟩
def Od(n:Nat):Prop:=∀(x:Tm n)(B:Nat)(w:World),In B w n x->B<=w.heap.size->(ar n x).length<=2097152->
 ah 81 #[dd n x] w λe w'=>e=.returned (.int .i64 (sz n x))/\ag w w'
theorem Dl(b d:Int)(s:ByteArray)(a:Option Addr)(len pc:Nat)(w:World)(c:¬b=4):ah 81 #[.agg #[.int .i64 b,.int .i64 d,.string s,.slice a len pc]] w λe w'=>e=.returned (.int .i64 0)/\ag w w':=by
 have f:(b !=4)=true:=by simpa using c
 clear c;go_enter Tryz.func81,Tryz.ntmps81;go_wp2_with fail
 go_ret
 exact⟨rfl,(ak _ _).alloc (ai _) _⟩
theorem Gq(n:Nat)(ih:Od n)(M:Int)(s:ByteArray)(a:Option Addr)(pc len:Nat)(p:List (Tm n))(l:Hid (p.length=len))(B:Nat)(w:World)(g:Hid (p=[]\/∃b o,a=some ⟨b,o,none⟩/\b<B/\∀(i:Nat)(y:Tm n),p[i]?=some y->dy w b (o+i*4) n y/\In B w n y))(v:B<=w.heap.size)(D:Hid (1+(p.flatMap λy=>ar n y).length<=2097152)):ah 81 #[.agg #[.int .i64 4,.int .i64 M,.string s,.slice a len pc]] w λe w'=> e=.returned (.int .i64 (1+(p.map λy=>1+sz n y).sum))/\ag w w':=by
 have S:len<=2097152:=by have u:=vR n p;have O:=D.out;rw[<-l.out];omega
 go_enter Tryz.func81,Tryz.ntmps81;go_wp2_with fail;go_loopw [3,16] (λt i wr=>∃k:Nat,∃h:Int,k<=len/\i=.int .i64 k/\t=.int .i64 h/\Hid (h=oX n p k)/\ag w wr) (λ_ i _=>len-(intOf i).toNat)
 case atStart=>exact⟨0,1+len,by omega,rfl,rfl,by simp only[Hid,oX];rw[l.out];simp,(ak _ _).alloc (ai _) _⟩
 case round=>
  obtain⟨k,h,P,rfl,rfl,x,d⟩:=hrel;have r:=Bl n p k;rw[<-x.out]at r;have I:=D.out;have U:0<=h:=r.1;have V:h<=6291456:=by omega
  clear r;by_cases K:k<len
  ·obtain⟨c,j⟩:∃c,p[k]?=some c:=⟨p[k]'(by rw[l.out];exact K),aD _⟩;have G:=aj (Dn n p k c j);have H:=jH p c (aC j);have E:(ar n c).length<=2097152:=by omega
   have z:=ey n c;have ab:0<=sz n c:=z.1;have ad:sz n c<=4194304:=by omega
   clear H I z;rcases g.out with g|⟨T,po,rfl,L,g⟩
   ·subst g;simp at j
   obtain⟨m,q⟩:=g k c j;replace m:=m.below (d.mono v) L;replace q:=q.below (d.mono v);clear g j;cases n with
   | zero=>exact m.elim
   | succ n=>
   obtain⟨W,X,Y,Z⟩:=m;have A:B<=wr.heap.size:=aw v d.size
   have F:Hid (∀f,ag wr f->ah 81 #[.agg #[.int .i64 c.1.1,.int .i64 c.1.2.1,.string c.1.2.2,.slice c.2.1.1 c.2.2.length c.2.1.2]] f λe w'=>e=.returned (.int .i64 (sz (n+1) c))/\ag f w'):=
    λf u=>ih c B f (q.below (u.mono A)) (aw A u.size) E
   clear ih q E;generalize c.2.2.length=aa at*;generalize sz (n+1) c=N at*;have Q:(0:Int)<=(k:Int):=by omega
   have R:(k:Int)<(len:Int):=by omega
   go_wp2_with fail;refine(F.out _ ((ak _ _).alloc (ai _) _)).mono ?_;rintro e f ⟨rfl,C⟩;have J:ag w f:=(d.trans (((ak _ _).alloc (ai _) _).mono d.size)).trans (C.mono (by have:=d.size;simp;omega));clear C;go_wp2_with fail;go_roundw
   case rel=>exact⟨k+1,h+N,by omega,by go_num,by go_num,by simp only[Hid];rw[G.out,<-x.out],J⟩
   case measure=>simp[intOf];omega
  ·go_wp2_with fail
   go_ret
   refine⟨iL ?_,d⟩;rw[x.out,Gr n p k (by rw[l.out];omega)]
theorem wT(n:Nat):Od n:=by
 induction n with
 | zero=>intro m i b g;exact g.elim
 | succ n ih=>
  intro m i b g p l;obtain⟨⟨k,e,d⟩,⟨c,pc⟩,a⟩:=m;obtain⟨⟨_,_,_,s,r⟩,j⟩:=g;simp only at s r j;have q:(ar (n+1) ((k,e,d),(c,pc),a)).length=1+(a.flatMap λh=>ar n h).length:=by simp only[ar,aV];omega
  rw[q]at l;show ah 81 #[.agg #[.int .i64 k,.int .i64 e,.string d,.slice c a.length pc]] b λo t=>o=.returned (.int .i64 (if k=4 then 1+(a.map λh=>1+sz n h).sum else 0))/\ag b t;by_cases f:k=4
  ·subst f;exact Gq n ih e d c pc a.length a rfl i b j p l
  ·rw[if_neg f];exact Dl k e d c a.length pc b f
theorem Bi(w:World)(k g:Int)(s:ByteArray)(a:Option Addr)(l c:Nat)(j:Bool)(d n:Int)(D:Hid (∀w1,ag w w1->ah 79 #[.agg #[.int .i64 k,.int .i64 g,.string s,.slice a l c]] w1 λe w'=>e=.returned (.bool j)/\ag w1 w'))(C:Hid (∀w1,ag w w1->ah 80 #[.agg #[.int .i64 k,.int .i64 g,.string s,.slice a l c]] w1 λe w'=>e=.returned (.int .i64 d)/\ag w1 w'))(E:Hid (∀w1,ag w w1->ah 81 #[.agg #[.int .i64 k,.int .i64 g,.string s,.slice a l c]] w1 λe w'=>e=.returned (.int .i64 n)/\ag w1 w')):ah 51 #[.agg #[.int .i64 k,.int .i64 g,.string s,.slice a l c]] w λe w'=>e=.returned (.int .i64 (if j then if 12<d\/200<n then 2 else 0 else 5))/\ag w w':=by
 generalize A:(if j then if 12<d\/200<n then (2:Int)else 0 else 5)=I;have i:=aj A;clear A;go_enter Tryz.func51,Tryz.ntmps51;go_wp2_with fail;refine(D.out _ ((ak _ _).alloc (ai _) _)).mono ?_;rintro e w1 ⟨rfl,m⟩;have f:Hid (ag w w1/\w.heap.size+1<=w1.heap.size):=⟨((ak _ _).alloc (ai _) _).trans (m.mono (by simp)),by have:=m.size;simpa using this⟩;have b:=am m;simp only[gC]at b;have t:=(b w.heap.size 0 (by omega)).trans (by simp[go_sem]:_=some (Value.int .i64 k));have u:=(b w.heap.size 1 (by omega)).trans (by simp[go_sem]:_=some (Value.int .i64 g));have v:=(b w.heap.size 2 (by omega)).trans (by simp[go_sem]:_=some (Value.string s));have x:=(b w.heap.size 3 (by omega)).trans (by simp[go_sem]:_=some (Value.slice a l c));clear b m;cases j with
 | false=>
  go_wp2_with fail
  go_ret
  exact⟨iL (by rw[<-i.out];rfl),f.out.1⟩
 | true=>
  go_wp2_with fail;refine(C.out _ f.out.1).mono ?_;rintro e G ⟨rfl,q⟩;have h:Hid (ag w G):=f.out.1.trans (q.mono f.out.1.size);have b:=am q;have F:=f.out.2;replace t:=(b w.heap.size 0 (by omega)).trans t;replace u:=(b w.heap.size 1 (by omega)).trans u;replace v:=(b w.heap.size 2 (by omega)).trans v;replace x:=(b w.heap.size 3 (by omega)).trans x;clear b q F;by_cases y:12<d
  ·have o:=aj y;go_wp2_with fail
   go_ret
   exact⟨iL (by rw[<-i.out,if_pos trivial,if_pos (ae o.out)]),h.out⟩
  ·have o:=aj y;go_wp2_with fail;refine(E.out _ h.out).mono ?_;rintro e H ⟨rfl,z⟩;have r:Hid (ag w H):=h.out.trans (z.mono h.out.size);clear z;by_cases B:200<n
   ·have p:=aj B;go_wp2_with fail
    go_ret
    exact⟨iL (by rw[<-i.out,if_pos trivial,if_pos (af p.out)]),r.out⟩
   ·have p:=aj B;go_wp2_with fail
    go_ret
    exact⟨iL (by rw[<-i.out,if_pos trivial,if_neg (by have:=o.out;have:=p.out;omega)]),r.out⟩
def vv(n:Nat)(x:Tm n):Int:=if bQ n x then if 12<eW n x\/200<sz n x then 2 else 0 else 5
theorem Bg(n:Nat)(x:Tm n)(B:Nat)(w:World)(d:In B w n x)(b:B<=w.heap.size)(f:(ar n x).length<=2097152):ah 51 #[dd n x] w λe w'=>e=.returned (.int .i64 (vv n x))/\ag w w':=by
 cases n with
 | zero=>exact d.elim
 | succ n=>
 exact Bi w x.1.1 x.1.2.1 x.1.2.2 x.2.1.1 x.2.2.length x.2.1.2 (bQ (n+1) x) (eW (n+1) x) (sz (n+1) x)
  (λc a=>Cb (n+1) x B c (d.below (a.mono b)) (aw b a.size))
  (λc a=>ER (n+1) x B c (d.below (a.mono b)) (aw b a.size) f)
  (λc a=>wT (n+1) x B c (d.below (a.mono b)) (aw b a.size) f)
theorem kM:(n:Nat)->(x:Tm n)->bQ n x=(ar n x).all cm
 | 0,_=>by simp[bQ,ar,cm]
 | n+1,x=>by
  have e:(ar (n+1) x).all cm=(cm (bu n x) && (x.2.2.flatMap λy=>ar n y).all cm):=rfl;rw[e];simp only[bQ];cases hg:cm (bu n x)
  ·rfl
  ·rw[dX,dX];by_cases b:x.1.1=4
   ·rw[b];have key:∀l:List (Tm n),(l.all λy=>bQ n y)=(l.flatMap λy=>ar n y).all cm:=by
     intro l
     induction l with
     | nil=>rfl
     | cons y l ih=>simp only[iE,bv,jV,ih,kM n y]
    rw[key];simp
   ·have c:x.2.2=[]:=by
      unfold cm at hg;simp only[ay,gU,b9]at hg;rcases hg.2 with a|a
      ·exact(b a).elim
      ·have:¬(0:Int)<(x.2.2.length:Int):=by simpa [bu]using a
       exact bD (by omega)
    rw[c];simp
def mR:List Nd->List Int->Int->Int
 | x::l,d::ds,m=>mR l ds (mw x d m)
 | _,_,m=>m
theorem zr(g:Int):(l:List Nd)->(b:List Int)->(m:Int)->l.length=b.length->BU g l b m=if l.all cm then (if 12<mR l b m\/200<g then 2 else 0)else 5
 | [],_,_,_=>rfl
 | x::l,[],_,a=>by simp at a
 | x::l,d::b,m,a=>by
  have ih:=zr g l b (mw x d m) (by simpa using a);simp only[BU,mR];by_cases f:cm x=true
  ·have e:(x::l).all cm=l.all cm:=by simp[f]
   rw[if_pos f,ih];by_cases c:l.all cm=true
   ·rw[if_pos c,if_pos (e.trans c)];rfl
   ·rw[if_neg c,if_neg (λa=>c (e.symm.trans a))]
  ·rw[if_neg f,if_neg (λa=>f (bX.1 a x (by simp)))]
theorem qm:(l r:List Nd)->(a es:List Int)->(m:Int)->l.length=a.length->mR (l++r) (a++es) m=mR r es (mR l a m)
 | [],_,[],_,_,_=>rfl
 | [],_,_::_,_,_,h=>by simp at h
 | _::_,_,[],_,_,h=>by simp at h
 | x::l,r,d::a,es,m,h=>by
  simp only[fz,mR];exact qm l r a es _ (by simpa using h)
theorem zR{n:Nat}(c:Int):(p:List (Tm n))->(m e:Int)->p.foldl (λm y=>max m (c+eW n y)) (max m (c+e))=max m (c+p.foldl (λm y=>max m (eW n y)) e)
 | [],_,_=>rfl
 | y::p,m,e=>by
  simp only[fU];have a:max (max m (c+e)) (c+eW n y)=max m (c+max e (eW n y)):=by omega
  rw[a];exact zR c p m (max e (eW n y))
theorem zE:(n:Nat)->(x:Tm n)->(d m:Int)->(∀a∈ar n x,cm a=true)->d<=m->mR (ar n x) (oT n x d) m=max m (d+eW n x)
 | 0,x,_,_,h,_=>by
  have:=h ((0,0,.empty),(none,0,0)) (by simp[ar]);rcases jM _ this with g|g|g|g|g|⟨g,_⟩<;>simp at g
 | n+1,x,d,m,h,k=>by
  have f:=h (bu n x) (by simp[ar,bu]);have key:∀(p:List (Tm n))(m:Int),(∀y∈p,y∈x.2.2)->d+1<=m->mR (p.flatMap λy=>ar n y) (p.flatMap λy=>oT n y (d+1)) m=p.foldl (λm y=>max m (d+1+eW n y)) m:=by
   intro p
   induction p with
   | nil=>intro m _ _;rfl
   | cons y p ih=>
    intro m l k;simp only[bv,fU];rw[qm _ _ _ _ _ (jE n y (d+1)).symm,zE n y (d+1) m (λa q=>h a (nY (l y (by simp)) q)) k];exact ih _ (λu t=>l u (by simp[t])) (by omega)
  have o:mR (ar (n+1) x) (oT (n+1) x d) m=mR (x.2.2.flatMap λy=>ar n y) (x.2.2.flatMap λy=>oT n y (d+1)) (mw (bu n x) d m):=rfl;rw[o];simp only[eW];by_cases b:x.1.1=4
  ·rw[if_pos b];have c:mw (bu n x) d m=max m (d+1+0):=by
    unfold mw bu;by_cases j:m<d+1
    ·rw[if_pos ⟨b,j⟩];omega
    ·rw[if_neg (λi=>j i.2)];omega
   rw[c,key x.2.2 _ (λ_ s=>s) (by omega),zR];omega
  ·rw[if_neg b];have r:x.2.2=[]:=by
    unfold cm at f;simp only[ay,gU,b9]at f;rcases f.2 with e|e
    ·exact(b e).elim
    ·have:¬(0:Int)<(x.2.2.length:Int):=by simpa [bu]using e
     exact bD (by omega)
   have c:mw (bu n x) d m=m:=EQ _ (λi=>b i.1);rw[r,c];simp only[List.flatMap_nil,mR];omega
theorem fS(n:Nat)(x:Tm n):vv n x=bm n x:=by
 unfold vv bm;rw[zr _ _ _ _ (jE n x 0).symm,<-kM n x];by_cases a:bQ n x=true
 ·rw[if_pos a,if_pos a];have d:∀b∈ar n x,cm b=true:=by
   rw[kM n x]at a;exact λb c=>bX.1 a b c
  have e:=fH n x;rw[zE n x 0 0 d (by omega)];have:max (0:Int) (0+eW n x)=eW n x:=by omega
  rw[this]
 ·rw[if_neg a,if_neg a]
theorem dx(n:Nat)(x:Tm n)(B:Nat)(w:World)(c:In B w n x)(a:B<=w.heap.size)(b:(ar n x).length<=2097152):ah 51 #[dd n x] w λe w'=>e=.returned (.int .i64 (bm n x))/\ag w w':=by
 rw[<-fS];exact Bg n x B w c a b
end Go.Proofs.YtckamaoibonjcaaGreat
