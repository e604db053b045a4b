/- Proved here: plain facts and contracts. No condition but what each names. -/
import Derived.Test.YtmmahddlcldmiaaGreatJ04
import Derived.Maps.RangeWalk
import Derived.WideKeyPair
import Derived.WideKeyEntry
import Derived.Deep.RegionHeld3
import Derived.Laws.MakeOwn
namespace Go.Proofs.YtmmahddlcldmiaaGreat
open Go.RowKit Tryz
open Go.RowKit Go.Maps
set_option maxRecDepth 100000
set_option maxHeartbeats 2000000
def cr(P:aR):(n:Nat)->Tm n->Prop
 | 0,_=>False
 | n+1,x=>x.2.2=[]\/∃b o,x.2.1.1=some ⟨b,o,none⟩/\P b/\∀(i:Nat)(y:Tm n),x.2.2[i]?=some y->cr P n y
theorem cr.mono{P Q:aR}(a:∀b,P b->Q b):{n:Nat}->{x:Tm n}->cr P n x->cr Q n x
 | 0,_,k=>k
 | _+1,_,k=>by
  rcases k with k|⟨b,o,e,c,k⟩
  ·exact ai k
  ·exact aj ⟨b,o,e,a b c,λi y d=>(k i y d).mono a⟩
variable{a:Int}{j k:Int×Int}{l:List (Tm N)}{xs:List Value}{h B L base c g len n o sz:Nat}{S:Nat->Prop}{f row:Option Nat}{d:Type}{e:TypeId}{v:Value}{w' w1 w2:World}{i W w wr:ag}{m:av}
theorem bD{w':ag}{b:Nat}(a:w'.heap[b]?=w.heap[b]?)(o:Nat):w'.cell? ⟨b,o,none⟩=w.cell? ⟨b,o,none⟩:=by
 simp[World.cell?,a]
theorem dH.block{w w':ag}{b o:Nat}(a:w'.heap[b]?=w.heap[b]?):{n:Nat}->{x:Tm n}->dH w b o n x->dH w' b o n x
 | 0,_,k=>k
 | _+1,_,k=>by
  obtain⟨c,d,e,f⟩:=k;exact⟨(bD a _).trans c,(bD a _).trans d,(bD a _).trans e,(bD a _).trans f⟩
theorem In.off{P:aR}{w w':ag}(f:∀b,P b->w'.heap[b]?=w.heap[b]?){B:Nat}:{n:Nat}->{x:Tm n}->cr P n x->In B w n x->In B w' n x
 | 0,_,_,k=>k
 | _+1,_,p,k=>by
  obtain⟨m,a⟩:=k;refine⟨m,?_⟩;rcases a with a|⟨b,o,e,j,a⟩
  ·exact ai a
  ·rcases p with p|⟨q,r,c,l,p⟩
   ·exact ai p
   ·rw[e]at c;injection c with c;injection c with g h;subst g h;exact aj ⟨b,o,e,j,λi y d=>⟨(a i y d).1.block (f b l),(a i y d).2.off f (p i y d)⟩⟩
theorem In.offB{P:aR}{B:Nat}{w:ag}:{n:Nat}->{x:Tm n}->cr P n x->In B w n x->cr (λb=>P b/\b<B) n x
 | 0,_,p,_=>p
 | _+1,_,p,k=>by
  obtain⟨_,a⟩:=k;rcases p with p|⟨b,o,e,h,p⟩
  ·exact ai p
  ·rcases a with a|⟨l,m,c,j,a⟩
   ·exact ai a
   ·rw[e]at c;injection c with c;injection c with f g;subst f g;exact aj ⟨b,o,e,⟨h,j⟩,λi y d=>In.offB (p i y d) (a i y d).2⟩
def gu:(n:Nat)->Tm n->Nd
 | 0,_=>((0,0,⟨#[]⟩),(none,0,0))
 | n+1,x=>bI n x
theorem Mp{l:List (Tm (n+1))}(a:w.ownsRow base 31 4 (ae (some ⟨g,0,none⟩) L c) L (cH (l.map (gu (n+1)))))(k:Nat)(x:Tm (n+1))(d:l[k]?=some x):dH w g (0+k*4) (n+1) x:=by
 have b:=DT a k (gu (n+1) x) (by simp[d]);rw[de];exact b
def qX(base:Nat)(n:Nat)(l:List (Tm n))(v:av)(w:ag):Prop:=
 w.ownsRow base 31 4 v l.length (cH (l.map (gu n)))/\∀a∈l,In w.heap.size w n a/\cr (λb=>base<=b/\v.ownBlock≠some b) n a
theorem qX.tup{l:List (Tm (n+1))}{v:av}(m:qX base (n+1) l v w):∃a c,v=ae a l.length c/\cr (λb=>base<=b) (n+2) ((4,0,⟨#[]⟩),(a,c),l)/\In w.heap.size w (n+2) ((4,0,⟨#[]⟩),(a,c),l):=by
 obtain⟨i,j⟩:=m;have d:dC 4/\dC 0/\(⟨#[]⟩:ap).size<=maxLen:=⟨⟨by omega,by omega⟩,⟨by omega,by omega⟩,aL _⟩;have e:=i;obtain⟨y,e⟩:=e;rcases e with⟨e,o⟩|⟨f,cap,x,rfl,r,s,q,u,A,z⟩
 ·have:l=[]:=bJ o;subst this;refine⟨none,0,by rw[e];rfl,ai rfl,⟨d.1,d.2.1,d.2.2,aL _,aL _⟩,ai rfl⟩
 ·have t:f<w.heap.size:=(aJ.1 s).1;refine⟨some ⟨f,0,none⟩,cap,rfl,aj ⟨f,0,rfl,r,λk h g=>((j h (aN g)).2).mono λb p=>p.1⟩,⟨d.1,d.2.1,d.2.2,q,u⟩,aj ⟨f,0,rfl,t,λk h g=>⟨Mp i k h g,(j h (aN g)).1⟩⟩⟩
structure bB (S:Nat->Prop) (w w':World):Prop where
 os:w'.os=w.os
 tape:w'.tape=w.tape
 output:w'.output=w.output
 size:w.heap.size<=w'.heap.size
 block:∀b,b<w.heap.size->¬S b->w'.heap[b]?=w.heap[b]?
theorem bB.refl(S:Nat->Prop)(w:World):bB S w w:=⟨rfl,rfl,rfl,ao _,λ_ _ _=>rfl⟩
theorem bB.trans{S T:Nat->Prop}{w w1 w2:World}(a:bB S w w1)(k:bB T w1 w2)(e:∀b,b<w.heap.size->T b->S b):bB S w w2:=
 ⟨k.os.trans a.os,k.tape.trans a.tape,k.output.trans a.output,aD a.size k.size,λb c d=>(k.block b (aW c a.size) (λf=>d (e b c f))).trans (a.block b c d)⟩
theorem bB.mono{T:Nat->Prop}{w:World}(a:bB S w w1)(d:∀b,b<w.heap.size->S b->T b):bB T w w1:=⟨a.os,a.tape,a.output,a.size,λb c e=>a.block b c λk=>e (d b c k)⟩
theorem aO{w:World}(a:Below w.heap.size w w')(S:Nat->Prop):bB S w w':=⟨a.os,a.tape,a.output,a.size,λb c _=>a.block b c⟩
theorem eA{w:World}(a:w.grownBy w' row):bB (λb=>row=some b) w w':=⟨a.os,a.tape,a.output,a.size,λb c d=>a.block b c λe=>d e.symm⟩
theorem bH(w:World)(q o:Nat)(v:Value):bB (λb=>b=q) w (w.setCell ⟨q,o,none⟩ v):=
 ⟨rfl,rfl,rfl,by simp[World.setCell],λb _ c=>by
  have:q≠b:=λa=>c a.symm
  simp[World.setCell,bO,this]⟩
theorem bB.below{w:World}(a:bB S w w')(e:B<=w.heap.size)(c:∀b,b<B->¬S b):Below B w w':=⟨a.os,a.tape,a.output,a.size,λb d=>a.block b (by omega) (c b d)⟩
theorem bB.cell{S:Nat->Prop}{w w':World}(a:bB S w w'){b:Nat}(o:Nat)(d:b<w.heap.size)(c:¬S b):w'.cell? ⟨b,o,none⟩=w.cell? ⟨b,o,none⟩:=by
 simp only[World.cell?,a.block b d c]
theorem bu{w:World}(c:w.ownsRow base e sz v n xs)(k:bB S w w')(h:∀b,v.ownBlock=some b->¬S b):w'.ownsRow base e sz v n xs:=by
 refine⟨c.1,?_⟩;rcases c.2 with⟨e,g⟩|⟨a,cap,f,e,i,d,j⟩
 ·exact ai ⟨e,g⟩
 ·exact aj ⟨a,cap,f,e,i,(k.block a (aJ.1 d).1 (h a (by rw[e];rfl))).trans d,j⟩
theorem dH.kee{S:Nat->Prop}{w w':World}(a:bB S w w'){b o:Nat}(d:b<w.heap.size)(c:¬S b):{n:Nat}->{x:Tm n}->dH w b o n x->dH w' b o n x
 | 0,_,k=>k
 | _+1,_,k=>by
  obtain⟨e,f,g,h⟩:=k;exact⟨(a.cell _ d c).trans e,(a.cell _ d c).trans f,(a.cell _ d c).trans g,(a.cell _ d c).trans h⟩
theorem In.kee{S:Nat->Prop}{w w':World}(d:bB S w w'):{n:Nat}->{x:Tm n}->In w.heap.size w n x->cr (λb=>¬S b) n x->In w'.heap.size w' n x
 | 0,_,k,_=>k
 | _+1,x,k,o=>by
  obtain⟨p,a⟩:=k;refine⟨p,?_⟩;rcases a with a|⟨b,f,e,h,a⟩
  ·exact ai a
  ·rcases o with o|⟨q,r,c,m,o⟩
   ·exact ai o
   ·rw[e]at c;injection c with c;injection c with j l;subst j l;exact aj ⟨b,f,e,aW h d.size,λi y g=>⟨(a i y g).1.kee d h m,(a i y g).2.kee d (o i y g)⟩⟩
/-! ### the keys -/
theorem o9:WideMaps.ArrKey Tryz.prog 44 3 2:=⟨underlying44,by kernel_rfl,by kernel_rfl,by kernel_rfl⟩
theorem dU:Keyed Tryz.prog 44:=Keyed.of_law o9.law
theorem wk:∃m,Tryz.prog.types.size=m+1:=by
 have a:(Tryz.prog.types.size==0)=false:=by kernel_rfl
 have b:Tryz.prog.types.size≠0:=iH.1 a;exact⟨Tryz.prog.types.size-1,by omega⟩
def pk(k:Int×Int):Value:=.agg #[.int .i64 k.1,.int .i64 k.2]
def kl(k:Int×Int):Lit:=.string (keyBytes [.int .i64 k.1,.int .i64 k.2])
def I2(k:Int×Int):Prop:=dC k.1/\dC k.2
theorem NC(b:dC a):(Lit.int .i64 a).wf=true:=iF (by unfold dC at b;omega)
theorem Ph(b:(Lit.int .i64 a).wf=true):dC a:=by
 have: -9223372036854775808<=a/\a<=9223372036854775807:=by simpa [Lit.wf,IntKind.min,IntKind.max,IntKind.signed,IntKind.bits]using b
 exact this
theorem fp(a:I2 k):keyOf Tryz.prog 44 (pk k)=some (kl k):=WideMaps.keyOf_pair o9 underlying3 wk (NC a.1) (NC a.2)
theorem l7{b:Int×Int}(c:I2 k)(d:I2 b)(e:kl k=kl b):k=b:=by
 have a:=dU.inj (fp c) (e▸fp d);simp only[pk,Value.agg.injEq,Array.mk.injEq,kN,Value.int.injEq,true_and,and_true]at a;exact fC a.1 a.2
theorem JU{x:Lit}(a:keyOf Tryz.prog 44 v=some x):∃k,I2 k/\v=pk k/\x=kl k:=by
 have r:=a;unfold keyOf at a;simp only[underlying44]at a;split at a
 ·rename_i n;simp only[aK]at n;have f:=n.2;unfold Value.formed at f;cases v<;>simp[underlying44]at f;rename_i q;rw[o9.size]at f;obtain⟨l⟩:=q
  match l,f with
  | [c0,c1],_=>
   simp only[cw]at a;obtain⟨w,d,_⟩:=a;obtain⟨u,s⟩:=wk;rw[s]at d;unfold Program.keyLits at d;simp only[underlying44,Value.cells]at d;rw[if_pos (by rw[o9.size];rfl),show List.range 2=[0,1]from rfl,List.mapM_cons,List.mapM_cons,List.mapM_nil]at d;simp only[cw,bind,bC,pure,o9.one]at d;obtain⟨_,⟨y0,h,_,⟨y1,i,_⟩,_⟩,_⟩:=d;simp only[Nat.zero_mul,List.drop_zero,List.take_succ_cons,nd,Nat.one_mul,List.drop_succ_cons]at h i;have o:∀c p,Program.keyLits Tryz.prog (u+1) 3 [c]=some p->∃e,c=.int .i64 e/\dC e:=by
    intro c p g;unfold Program.keyLits at g;cases c<;>simp[underlying3]at g;obtain⟨⟨rfl,t⟩,_⟩:=g;exact⟨_,rfl,Ph t⟩
   obtain⟨e,rfl,j⟩:=o _ _ h;obtain⟨b,rfl,m⟩:=o _ _ i;refine⟨(e,b),⟨j,m⟩,rfl,?_⟩;have:=fp (k:=(e,b)) ⟨j,m⟩;exact aA (r.symm.trans this)
 ·cases a
/-! ### the map -/
def mK(v:Value):Option (DataW Value×List MemPlace):=some (.held v,[])
def iN{a:Type}(f:Int×Int->a)(k:Int×Int)(x:a):Int×Int->a:=λj=>if j=k then x else f j
theorem cU(f:Int×Int->d)(k:Int×Int)(x:d):iN f k x k=x:=if_pos rfl
theorem bY(f:Int×Int->d)(x:d)(a:j≠k):iN f k x j=f j:=if_neg a
def mH:Value:=.slice none 0 0
def dv(N:Nat)(l:List (Tm N)):List Value:=cH (l.map (gu N))
theorem pY(N:Nat)(l:List (Tm N)):(dv N l).length=l.length*4:=by simp[dv,oy]
theorem pX(N:Nat)(l r:List (Tm N)):dv N (l++r)=dv N l++dv N r:=by simp[dv,vB]
def oc(base N:Nat)(v:Value)(l:List (Tm N))(w:World):Prop:=w.ownsRow base 31 4 v l.length (dv N l)
structure GM (base mb n N:Nat) (f:Int×Int->List (Tm N)) (sl:Int×Int->Value) (w:World):Prop where
 lo:base<=mb
 map:∃D,w.ownsMap Tryz.prog 44 mK mb n D/\(∀k,I2 k->D.atKey (kl k) (.held mH)=.held (sl k))/\∀x,has D x=true ↔∃k,I2 k/\x=kl k/\f k≠[]
 row:∀k,I2 k->oc base N (sl k) (f k) w
 apart:∀k j,I2 k->I2 j->k≠j->∀b,(sl k).ownBlock=some b->(sl j).ownBlock≠some b
def Ny(a:Nat)(sl:Int×Int->Value)(b:Nat):Prop:=b=a\/∃k,I2 k/\(sl k).ownBlock=some b
theorem eC{w:World}(d:w.ownsRow base e sz v n xs)(b:Nat)(c:v.ownBlock=some b):∃a,w.heap[b]?=some (.cells a e (0,0)):=by
 rcases d.2 with⟨rfl,_⟩|⟨g,cap,a,rfl,_,f,_⟩
 ·simp[Value.ownBlock]at c
 ·simp[Value.ownBlock]at c;subst c;exact⟨a,f⟩
variable {base mb n N:Nat} {f:Int×Int->List (Tm N)} {sl:Int×Int->Value} {w:World}
theorem GM.lt(a:GM base mb n N f sl w)(b:Nat)(c:Ny mb sl b):base<=b/\b<w.heap.size:=by
 rcases c with rfl|⟨k,e,c⟩
 ·obtain⟨g,d,_⟩:=a.map;exact⟨a.lo,d.lt⟩
 ·exact(a.row k e).lt b c
theorem GM.ne(a:GM base mb n N f sl w)(g:I2 k):(sl k).ownBlock≠some mb:=by
 intro d;obtain⟨c,b⟩:=eC (a.row k g) mb d;obtain⟨h,⟨es,i,e,_⟩,_⟩:=a.map;rw[e]at b;cases b
theorem GM.kee(a:GM base mb n N f sl w)(k:bB S w w')(e:∀b,Ny mb sl b->¬S b):GM base mb n N f sl w':=by
 refine⟨a.lo,?_,λh g=>bu (a.row h g) k λb c=>e b (aj ⟨h,g,c⟩),a.apart⟩;obtain⟨i,d,l⟩:=a.map;refine⟨i,?_,l⟩;have m:=d.lt;obtain⟨es,j,c,o⟩:=d;exact⟨es,j,(k.block mb m (e mb (ai rfl))).trans c,o⟩
theorem GM.mono(b:GM base mb n N f sl w){m:Nat}(i:n<=m):GM base mb m N f sl w:=by
 obtain⟨c,⟨a,d,e⟩,g,h⟩:=b;exact⟨c,⟨a,d.mono i,e⟩,g,h⟩
theorem GM.new(w:World)(N:Nat):GM w.heap.size w.heap.size 0 N (λ_=> []) (λ_=>mH) (w.alloc (.map #[] 0)):=
 ⟨ao _,⟨.map [],pG w _ _ _,λk _=>by simp[DataW.atKey],λe=>⟨λa=>by simp[has]at a,λ⟨k,_,_,a⟩=>absurd rfl a⟩⟩,
  λk _=>⟨by simp[dv,cH],ai ⟨rfl,rfl⟩⟩,λk d _ _ _ b c=>by simp[mH,Value.ownBlock]at c⟩
theorem oc.rebase(a:oc base N v l w)(b:h<=base):oc h N v l w:=rO a b
theorem GM.rebase{b:Nat}(a:GM base mb n N f sl w)(c:b<=base):GM b mb n N f sl w:=
 ⟨aD c a.lo,a.map,λk d=>(a.row k d).rebase c,a.apart⟩
theorem Kz{d:DataW Value}{ps:List MemPlace}(a:mK v=some (d,ps)):d=.held v:=by
 unfold mK at a;injection a with a;injection a with b c;exact b.symm
theorem sg(w:World):(zeroValue 29).run Tryz.prog w=.ok (.slice none 0 0) w:=by kernel_rfl
theorem GM.look(d:GM base mb n N f sl w)(b:I2 k):(Instr.lookup 51 (.map (some mb)) (pk k) false).run Tryz.prog w=.ok (sl k) w:=by
 obtain⟨i,e,g,_⟩:=d.map;obtain⟨j,ps,h,c⟩:=e.lookup dU underlying51 (sg w) (zd:=.held mH) (zp:=[]) rfl (fp b);rw[g k b]at c;have a:=Kz c;injection a with a;rw[h,a]
theorem GQ(w:World)(b:I2 k):(Instr.lookup 51 (.map none) (pk k) false).run Tryz.prog w=.ok (.slice none 0 0) w:=by
 have a:=look_nil (P:=Tryz.prog) (w:=w) false dU underlying51 (sg w) (fp b);simpa using a
theorem FV{D:DataW Value}(f:IsMap D)(e:I2 k)(b:I2 j)(v:Value)(c:DataW Value):(D.put (kl k) (.held v)).atKey (kl j) c=if j=k then .held v else D.atKey (kl j) c:=by
 by_cases a:j=k
 ·subst a;rw[if_pos rfl,atKey_put_same f (dU.key (fp b))]
 ·rw[if_neg a,atKey_put_other λd=>a (l7 b e d)]
theorem GM.put_of(h:GM base mb n N f sl w)(i:I2 k)(E:bB (λb=>b=mb\/(sl k).ownBlock=some b) w w1)(H:l≠[])(J:oc base N v l w1)(y:∀b,v.ownBlock=some b->(sl k).ownBlock=some b\/w.heap.size<=b)(x:bB (λb=>b=mb) w1 w2)(K:∀D,w.ownsMap Tryz.prog 44 mK mb n D->w2.ownsMap Tryz.prog 44 mK mb (n+1) (D.put (kl k) (.held v))):GM base mb (n+1) N (iN f k l) (iN sl k v) w2:=by
 obtain⟨D,j,C,t⟩:=h.map;have M:=j.lt;have I:∀b,v.ownBlock=some b->b≠mb:=λb e a=>by
  subst a;rcases y b e with a|a
  ·exact h.ne i a
  ·omega
 have z:∀c,I2 c->c≠k->∀b,(sl c).ownBlock=some b->v.ownBlock≠some b:=λc d G b e L=>by
  rcases y b L with a|a
  ·exact h.apart c k d i G b e a
  ·have:=((h.row c d).lt b e).2;omega
 refine⟨h.lo,⟨_,K D j,λc d=>?_,λB=>?_⟩,λc d=>?_,λp c u d o b=>?_⟩
 ·rw[FV j.isMap i d];unfold iN;split
  ·rfl
  ·exact C c d
 ·constructor
  ·intro A;by_cases a:B=kl k
   ·exact⟨k,i,a,by rw[cU];exact H⟩
   ·rw[has_put_other a]at A;obtain⟨c,d,s,m⟩:=(t B).1 A;refine⟨c,d,s,?_⟩;rw[bY _ _ λg=>a (by rw[s,g])];exact m
  ·rintro ⟨c,d,rfl,m⟩;by_cases a:c=k
   ·rw[a,has_put_same j.isMap (dU.key (fp i))]
   ·rw[has_put_other λg=>a (l7 d i g)];rw[bY _ _ a]at m;exact(t _).2 ⟨c,d,rfl,m⟩
 ·by_cases a:c=k
  ·subst a;rw[cU,cU];exact bu J x λb e a=>I b e a
  ·rw[bY _ _ a,bY _ _ a];refine bu (bu (h.row c d) E λb e g=>?_) x λb e g=>h.ne d (by rw[e,g]);rcases g with g|g
   ·exact h.ne d (by rw[e,g])
   ·exact h.apart c k d i a b e g
 ·by_cases q:p=k
  ·subst q;rw[cU,bY _ _ λa=>o a.symm];exact λe F=>z c d (λa=>o a.symm) b F e
  ·rw[bY _ _ q];by_cases r:c=k
   ·subst r;rw[cU];exact λe=>z p u o b e
   ·rw[bY _ _ r];exact h.apart p c u d o b
theorem jh(a:w.mapTurned w2 mb):bB (λb=>b=mb) w w2/\w2.heap.size=w.heap.size:=by
 refine⟨(eA a.grown).mono λb _ c=>(aA c).symm,?_⟩;obtain⟨_,_,_,_,_,rfl⟩:=a;simp[ChangeMaps.setBlock]
theorem GM.store(g:GM base mb n N f sl w){k:Int×Int}(h:I2 k){w1:World}(i:bB (λb=>(sl k).ownBlock=some b) w w1){v:Value}{l:List (Tm N)}(x:l≠[])(A:oc base N v l w1)(y:∀b,v.ownBlock=some b->(sl k).ownBlock=some b\/w.heap.size<=b)(F:n<1000000):∃w2,(Instr.mapUpdate 51 (.map (some mb)) (pk k) v).run Tryz.prog w1=.ok () w2/\GM base mb (n+1) N (iN f k l) (iN sl k v) w2/\bB (λb=>b=mb) w1 w2/\w2.heap.size=w1.heap.size:=by
 have p:∀a,w.ownsMap Tryz.prog 44 mK mb n a->∃w2,(Instr.mapUpdate 51 (.map (some mb)) (pk k) v).run Tryz.prog w1=.ok () w2/\w2.ownsMap Tryz.prog 44 mK mb (n+1) (a.put (kl k) (.held v))/\w1.mapTurned w2 mb:=by
  intro a c;have z:=c.lt;have t:w1.ownsMap Tryz.prog 44 mK mb n a:=by
   obtain⟨es,r,u,C⟩:=c;exact⟨es,r,(i.block mb z (g.ne h)).trans u,C⟩
  exact t.store (d:=.held v) (ps:=[]) dU underlying51 (by unfold maxLen;omega) (fp h) rfl
 obtain⟨a,c,_⟩:=g.map;obtain⟨w2,m,_,E⟩:=p a c;obtain⟨j,D⟩:=jh E;refine⟨w2,m,g.put_of h (i.mono λb _ e=>aj e) x A y j (λq s=>?_),j,D⟩;obtain⟨G,o,B,_⟩:=p q s;rw[m]at o;injection o with _ e;rw[e];exact B
theorem GM.entry(s:GM base mb n N f sl w)(g:I2 k)(ak:n<1000000):∃(q:Nat)(w1:World),(Instr.mapEntry 51 (.map (some mb)) (pk k)).run Tryz.prog w=.ok (.tuple #[sl k,goInt q]) w1/\bB (λb=>b=mb) w w1/\w1.heap.size=w.heap.size/\ ∀(w2:World)(v:Value)(l:List (Tm N)),w2.heap[mb]?=w1.heap[mb]? ->bB (λb=>b=mb\/(sl k).ownBlock=some b) w w2->l≠[]->oc base N v l w2->(∀b,v.ownBlock=some b->(sl k).ownBlock=some b\/w.heap.size<=b)-> ∃i,(Instr.entryStore 51 (.map (some mb)) (goInt q) v).run Tryz.prog w2=.ok () i/\GM base mb (n+1) N (iN f k l) (iN sl k v) i/\bB (λb=>b=mb) w2 i/\i.heap.size=w2.heap.size:=by
 obtain⟨I,t,aj,_⟩:=s.map;obtain⟨es,r,c,j,Z,P⟩:=t;have t:w.ownsMap Tryz.prog 44 mK mb n I:=⟨es,r,c,j,Z,P⟩;obtain⟨ah,q,o,m,X,H,aa⟩:=WideElems.entry_then_store (e:=29) o9.law underlying51 sg c j (fp g);have K:ah=sl k:=by
  have x:=s.look g;obtain⟨am,ps,Y,al⟩:=t.lookup dU underlying51 (sg w) (zd:=.held mH) (zp:=[]) rfl (fp g);rw[x]at Y;rcases Maps.fit_look false dU underlying51 (sg w) c j (fp g)with⟨a,z,_⟩|⟨L,an,E,p,a,_⟩
  ·rw[x]at a;injection a with a _;rcases H with⟨B,y,h,_⟩|⟨_,rfl⟩
   ·exact absurd h (z B y)
   ·exact a.symm
  ·rw[x]at a;injection a with a _;rcases H with⟨B,y,h,rfl⟩|⟨z,_⟩
   ·have:=entry_eq_of_key ((MapKept.stamped_iff es r).1 j.stamped).2.2 E y (p.trans h.symm);simp at a;rw[a,this]
   ·exact absurd p (z L E)
 subst K;have ab:w.mapTurned (ChangeMaps.setBlock w mb (.map o m)) mb:=⟨es,r,o,m,c,rfl⟩;obtain⟨p,af⟩:=jh ab;refine⟨q,_,X,p,af,λw2 v l ae Q R T S=>?_⟩;have u:w2.heap[mb]?=some (.map o m):=ae.trans (sV c _);obtain⟨C,A,U,V⟩:=aa w2 v u;have ad:w2.mapTurned (ChangeMaps.setBlock w2 mb (.map C A)) mb:=⟨o,m,C,A,u,rfl⟩;obtain⟨h,ag⟩:=jh ad;refine⟨_,U,s.put_of g Q R T S h (λai O=>?_),h,ag⟩;obtain⟨i,G,F,_⟩:=O.store (d:=.held v) (ps:=[]) dU underlying51 (by unfold maxLen;omega) (fp g) rfl;rw[V]at G;injection G with _ e;rw[<-e]at F;obtain⟨M,J,D,W⟩:=F;rw[sV c]at D;exact⟨M,J,(sV u _).trans D,W⟩
theorem GM.drop(h:GM base mb n N f sl w){k:Int×Int}(l:I2 k)(ty:TypeId):∃w2,(Builtin.delete_ #[51,44] ty #[.map (some mb),pk k]).run Tryz.prog w=.ok (.tuple #[]) w2/\GM base mb n N (iN f k []) (iN sl k mH) w2/\bB (λb=>b=mb) w w2/\w2.heap.size=w.heap.size:=by
 obtain⟨D,u,v,q⟩:=h.map;obtain⟨w2,A,z,C⟩:=u.drop dU underlying51 (fp l) ty;obtain⟨r,B⟩:=jh C;refine⟨w2,A,⟨h.lo,⟨_,z,λc d=>?_,λt=>?_⟩,λc d=>?_,λs c x d y b=>?_⟩,r,B⟩
 ·by_cases a:c=k
  ·subst a;rw[cU,atKey_del_same]
  ·rw[bY _ _ a,atKey_del_other λe=>a (l7 d l e)];exact v c d
 ·constructor
  ·intro j;by_cases a:t=kl k
   ·rw[a,has_del_same]at j;cases j
   ·rw[has_del_other a]at j;obtain⟨c,d,p,g⟩:=(q t).1 j;refine⟨c,d,p,?_⟩;rw[bY _ _ λe=>a (by rw[p,e])];exact g
  ·rintro ⟨c,d,rfl,g⟩;by_cases a:c=k
   ·rw[a,cU]at g;exact absurd rfl g
   ·rw[has_del_other λe=>a (l7 d l e)];rw[bY _ _ a]at g;exact(q _).2 ⟨c,d,rfl,g⟩
 ·by_cases a:c=k
  ·subst a;rw[cU,cU];exact⟨by simp[dv,cH],ai ⟨rfl,rfl⟩⟩
  ·rw[bY _ _ a,bY _ _ a];exact bu (h.row c d) r λb i e=>h.ne d (by rw[i,e])
 ·by_cases m:s=k
  ·subst m;rw[cU];intro i;simp[mH,Value.ownBlock]at i
  ·rw[bY _ _ m];by_cases o:c=k
   ·subst o;rw[cU];intro _ i;simp[mH,Value.ownBlock]at i
   ·rw[bY _ _ o];exact h.apart s c x d y b
theorem wS{P:Program}(w:ag)(t ty e:TypeId)(i:TypeInfo)(x:P.underlying t=some (.slice e))(q:P.info? e=some i)(g d h:Nat)(f:Array av)(p:w.heap[g]?=some (.cells f e (0,0)))(a:Addr)(m c:Nat)(b:List av)(r:b.length=m*i.size)(s:∀j u,b[j]?=some u->w.cell? (a.add j)=some u)(l:∀u∈b,u.oneCell'=true)(v:d+m<=h)(o:d*i.size+b.length<=f.size):(Builtin.append_ #[t,t] ty #[ae (some ⟨g,0,none⟩) d h,ae (some a) m c]).run P w= .ok (ae (some ⟨g,0,none⟩) (d+m) h) (w.setRow g (f.toList.take (d*i.size)++b++f.toList.drop (d*i.size+b.length)).toArray):=by
 have n:=run_firstCells_some (P:=P) w i.size m a m c b r s;have k:=pI P g (d*i.size) e b 0 f w p (by simpa using o) l;simp only[gH]at k;simp[Builtin.append_,cC x,sizeOf,typeInfo,q,Builtin.lenOf,v,n,en,k]
theorem GD:(Tryz.prog.info? 31).map (λi=>(i.zero,i.size,i.bytes))=some (some (.agg #[ab 0,ab 0,af ⟨#[]⟩,ae none 0 0]),4,56):=by kernel_rfl
def qd:List av:=[ab 0,ab 0,af ⟨#[]⟩,ae none 0 0]
theorem wU(w:ag)(ty:TypeId)(g o c:Nat)(a:Array av)(e:w.heap[g]?=some (.cells a 31 (0,0)))(d:o+4<=a.size):(Builtin.clear_ #[29] ty #[ae (some ⟨g,o,none⟩) 1 c]).run Tryz.prog w=.ok (.tuple #[]) (w.setRow g (a.toList.take o++qd++a.toList.drop (o+4)).toArray):=by
 have b:=pI Tryz.prog g o 31 qd 0 a w e (by simpa [qd]using d) (by simp[qd,Value.oneCell']);have h:(Builtin.zeroCells (Value.agg #[ab 0,ab 0,af ⟨#[]⟩,ae none 0 0]).cells 1).toList=qd:=by
  simp[Builtin.zeroCells,Value.cells,qd];rfl
 simp only[gH]at b;have f:qd.length=4:=rfl;rw[f]at b;simp[Builtin.clear_,cC underlying29,h,b]
theorem KQ(w:ag)(g L c:Nat)(b:L<=c)(d:1<=L):(Instr.slice 29 (ae (some ⟨g,0,none⟩) L c) (some (ab 0)) (some (ab 1)) (some (ab L))).run Tryz.prog w=.ok (ae (some ⟨g,0,none⟩) 1 L) w:=by
 have a:(1:Int)<=(L:Int):=by omega
 simp[Instr.slice,cC underlying29,Instr.sliceBounds,Instr.sliceBound,asIntOf,a,b,go_sem]
theorem Eh(w:ag)(g L c:Nat):(Instr.slice 29 (ae (some ⟨g,0,none⟩) L c) none (some (ab 0)) none).run Tryz.prog w=.ok (ae (some ⟨g,0,none⟩) 0 c) w:=by
 simp[Instr.slice,cC underlying29,Instr.sliceBounds,Instr.sliceBound,asIntOf,go_sem]
theorem Ei(w:ag)(g L c:Nat)(d:L<=c)(e:2<=L):(Instr.slice 29 (ae (some ⟨g,0,none⟩) L c) (some (ab 1)) none none).run Tryz.prog w=.ok (ae (some ⟨g,4,none⟩) (L-1) (c-1)) w:=by
 have a:(1:Int)<=(L:Int):=by omega
 have b:¬c=1:=by omega
 simp[Instr.slice,cC underlying29,Instr.sliceBounds,Instr.sliceBound,asIntOf,a,b,go_sem,en]
theorem Eg(w:ag)(g m c:Nat)(e:m+1<=c):(Instr.slice 29 (ae (some ⟨g,0,none⟩) m c) (some (ab m)) (some (ab ((m:Int)+1))) none).run Tryz.prog w=.ok (ae (some ⟨g,m*4,none⟩) 1 (c-m)) w:=by
 have a:¬c=m:=by omega
 have b:(m:Int)+1<=(c:Int):=by omega
 have d:(0:Int)<=(m:Int)+1:=by omega
 simp[Instr.slice,cC underlying29,Instr.sliceBounds,Instr.sliceBound,asIntOf,a,b,d,go_sem,en]
theorem tU{w':ag}{v x':av}{b:Array Oper}{o:Oper}{a:Act}{K:Act->ag->Prop}{Q:Exit->Act->ag->Prop}{E:Prop}(d:o.guard=none)(s x:Operand)(e:o.op=.call {callee:=.builtin .append,args:= #[s,x],argTypes:= #[29,29]})(g:a.eval s=v)(i:a.eval x=x')(f:(Builtin.append_ #[29,29] o.type #[v,x']).run Tryz.prog w=.ok m w')(c:K (a.put o.dst m) w'):if Region.wanted o (yielded b a.tmps)=true then Oper.wp Tryz.prog o a w K Q else E:=by
 have h:Region.wanted o (yielded b a.tmps)=true:=by simp[Region.wanted,d]
 rw[if_pos h];unfold Oper.wp execOp;simp only[e,resolve,invoke,builtin,kV,Sem.run_pure,kU,mX,aU,ci,g,i,f];exact c
theorem ah{a:Array av}(b:w.heap[g]?=some (.cells a e (0,0)))(j:Nat):w.cell? ⟨g,j,none⟩=a.toList[j]? :=by
 simp[World.cell?,b]
theorem Db{N:Nat}(base g c m:Nat)(y:Tm N)(l:List (Tm N))(w:ag)(j:l.length=m)(C:oc base N (ae (some ⟨g,0,none⟩) (m+1) c) (y::l) w)(D:l≠[]):am 84 #[ae (some ⟨g,0,none⟩) ((m:Nat)+1) c,ab 0,ab 1] w λe w'=>e=.returned (ae (some ⟨g,0,none⟩) m c)/\oc base N (ae (some ⟨g,0,none⟩) m c) l w'/\w.grownBy w' (some g)/\w'.heap.size=w.heap.size:=by
 obtain⟨R,K,Z,O,aa⟩:=bW GD;have Y:0<m:=by
  rw[<-j];exact List.length_pos_iff.2 D
 obtain⟨E,F⟩:=C;rcases F with⟨e,_⟩|⟨V,cap,d,e,J,r,H,I,u,t⟩
 ·cases e
 ·injection e with i A B;injection i with i;injection i with i _;subst i B;simp only[br,j]at E H t A;have q:d.toList.length=c*4:=by rw[iz,u]
  have M:d.toList.take ((m+1)*4)=dv N [y]++dv N l:=by
   rw[t,<-pX];rfl
  have S:(dv N [y]).length=4:=by rw[pY];rfl
  have f:(dv N l).length=m*4:=by rw[pY,j]
  have z:Hid (∀a:ag,a.heap[g]?=some (.cells d 31 (0,0))->∀n o,(dv N l)[n]?=some o->a.cell? ((⟨g,4,none⟩:Addr).add n)=some o):=by
   intro a h n o s;have X:=(aX.1 s).1;rw[en,ah h];have e:(d.toList.take ((m+1)*4))[4+n]?=some o:=by
    rw[M,eq (by omega),S,Nat.add_sub_cancel_left];exact s
   rw[jp]at e;split at e
   ·exact e
   ·cases e
  have v:Hid (∀(a:ag)(ty:TypeId),a.heap[g]?=some (.cells d 31 (0,0))->(Builtin.append_ #[29,29] ty #[ae (some ⟨g,0,none⟩) 0 c,ae (some ⟨g,4,none⟩) m (c-1)]).run Tryz.prog a=
   .ok (ae (some ⟨g,0,none⟩) m c) (a.setRow g (dv N l++d.toList.drop (m*4)).toArray)):=by
   intro a ty h;have p:=wS (P:=Tryz.prog) a 29 ty 31 R underlying29 K g 0 c d h ⟨g,4,none⟩ m (c-1) (dv N l) (by rw[f,O]) (z a h) (tn _) (by omega) (by rw[f,u];omega);simpa [f]using p
  have x:Hid (∀(a:ag)(ty:TypeId),a.heap[g]?=some (.cells (dv N l++d.toList.drop (m*4)).toArray 31 (0,0))->(Builtin.clear_ #[29] ty #[ae (some ⟨g,m*4,none⟩) 1 (c-m)]).run Tryz.prog a=
   .ok (.tuple #[]) (a.setRow g (dv N l++qd++d.toList.drop ((m+1)*4)).toArray)):=by
   intro a ty h;have p:=wU a ty g (m*4) (c-m) _ h (by simp only[dT,bw,fj,f,q];omega);rw[p];refine congrArg (λU=>Result.ok (Value.tuple #[]) (a.setRow g (List.toArray U))) ?_;rw[pE,g8 (by omega),bF (by omega),List.drop_append,px (by omega),f,List.drop_drop,jO];rw[show m*4+(m*4+4-m*4)=(m+1)*4 by omega]
  have G:=v w.drew 29 r;have HB:Hid ((w.drew.setRow g (dv N l++d.toList.drop (m*4)).toArray).heap[g]?=some (.cells (dv N l++d.toList.drop (m*4)).toArray 31 (0,0))):=setRow_heap w.drew g d _ _ _ r;have W:=λty:TypeId=>x _ ty HB;have ad:=λa:ag=>KQ a g (m+1) c (by omega) (by omega);have af:=λa:ag=>Eh a g (m+1) c;have T:=λa:ag=>Ei a g (m+1) c (by omega) (by omega);have ai:=λa:ag=>Eg a g m c (by omega);rw[eO]at T;go_enter func84,ntmps84;go_wp2_with fail;go_region_held3 (λ_=>True) (trivial) ((first|(refine tU rfl _ _ rfl (by simp[Act.eval]) (by simp[Act.eval]) G ?_)));go_wp2_with fail
  go_ret
  have k:∀b,b≠g->((w.drew.setRow g (dv N l++d.toList.drop (m*4)).toArray).setRow g (dv N l++(qd++d.toList.drop ((m+1)*4))).toArray).heap[b]?=w.heap[b]? :=λb k=>(setRow_other _ _ _ _ k).trans (setRow_other _ _ _ _ k);refine⟨rfl,⟨by rw[f,j],aj ⟨g,c,_,by rw[j],J,setRow_heap _ _ _ _ _ _ HB,by omega,I,?_,?_⟩⟩,⟨rfl,rfl,rfl,by simp,λb _ L=>k b λe=>L (by rw[e])⟩,by simp⟩
  ·have Q:qd.length=4:=rfl;simp only[dT,bw,fj,f,q,Q];omega
  ·rw[pE,g8 (by omega),bF (by omega)]
def aG{c β:Type}(f:c->β->Bool):List c->List β->Bool
 | [],[]=>true
 | a::p,b::q=>f a b && aG f p q
 | _,_=>false
def aB:(n:Nat)->Tm n->(m:Nat)->Tm m->Bool
 | n+1,x,m+1,y=>x.1.1==y.1.1 && x.1.2.1==y.1.2.1 && x.1.2.2.toList==y.1.2.2.toList && aG (λa b=>aB n a m b) x.2.2 y.2.2
 | _,_,_,_=>false
theorem fe{a b:Bool}(c:a=b):Ending.returned (.bool a)=.returned (.bool b):=by rw[c]
theorem Ec{β:Type}(f:d->β->Bool)(p:List d)(q:List β)(k:Nat)(a:d)(b:β)(i:p[k]?=some a)(j:q[k]?=some b):aG f (p.drop k) (q.drop k)=(f a b && aG f (p.drop (k+1)) (q.drop (k+1))):=by
 obtain⟨g,c⟩:=aX.1 i;obtain⟨h,e⟩:=aX.1 j;rw[eM g,eM h,c,e];rfl
theorem vQ{c β:Type}(f:c->β->Bool):(p:List c)->(q:List β)->¬p.length=q.length->aG f p q=false
 | [],[],h=>by simp at h
 | [],_::_,_=>rfl
 | _::_,[],_=>rfl
 | a::p,b::q,h=>by
  simp only[aG];rw[vQ f p q (by simpa using h)];simp
def IT(n:Nat):Prop:=∀(x:Tm n)(m:Nat)(y:Tm m)(B:Nat)(w:ag),In B w n x->In B w m y->B<=w.heap.size->
 am 16 #[dw n x,dw m y] w λe w'=>e=.returned (.bool (aB n x m y))/\ak w w'
theorem JD(p q:Nat)(a c:aw)(pc d:Nat)(w:ag)(_hpc:p<=9223372036854775807)(_hqc:q<=9223372036854775807)(b:((p:Int)==(q:Int))=false):am 36 #[ae a p pc,ae c q d,.func (Fn.func 16) #[] #[]] w λe w'=>e=.returned (.bool false)/\w'=w:=by
 have f:((p:Int) !=(q:Int))=true:=by simpa using b
 go_enter func36,ntmps36;go_wp2_with fail
 go_ret
 exact⟨rfl,rfl⟩
theorem xq(a c:aw)(pc d:Nat)(w:ag):am 36 #[ae a 0 pc,ae c 0 d,.func (Fn.func 16) #[] #[]] w λe w'=>e=.returned (.bool true)/\w'=w:=by
 go_enter func36,ntmps36;go_wp2_with fail
 go_loop [17] (λb=>b=ab 0) (λ_=>0)
 case atStart=>rfl
 case round=>
  obtain rfl:=hrel;go_wp2_with fail
  go_ret
  exact⟨rfl,rfl⟩
theorem JC(n m:Nat)(ih:IT n)(p:List (Tm n))(q:List (Tm m))(len:Nat)(G:Hid (p.length=len))(I:Hid (q.length=len))(s po t J pc N:Nat)(B:Nat)(w:ag)(S:len<=9223372036854775807)(L:s<B)(M:t<B)(F:∀(i:Nat)(y:Tm n),p[i]?=some y->dH w s (po+i*4) n y/\In B w n y)(H:∀(i:Nat)(y:Tm m),q[i]?=some y->dH w t (J+i*4) m y/\In B w m y)(g:B<=w.heap.size):am 36 #[ae (some ⟨s,po,none⟩) len pc,ae (some ⟨t,J,none⟩) len N,.func (Fn.func 16) #[] #[]] w λe w'=> e=.returned (.bool (aG (λa b=>aB n a m b) p q))/\ak w w':=by
 go_enter func36,ntmps36;go_wp2_with fail;go_loopw [17] (λi wr=>∃k:Nat,k<=len/\i=ab k/\ak w wr/\Hid (aG (λa b=>aB n a m b) (p.drop k) (q.drop k)=aG (λa b=>aB n a m b) p q)) (λi _=>len-(intOf i).toNat)
 case atStart=>exact⟨0,by omega,rfl,aq _ _,rfl⟩
 case round=>
  obtain⟨k,P,rfl,d,x⟩:=hrel;by_cases E:k<len
  ·obtain⟨c,z⟩:∃c,p[k]?=some c:=⟨p[k]'(by rw[G.out];exact E),aM _⟩;obtain⟨y,A⟩:∃y,q[k]?=some y:=⟨q[k]'(by rw[I.out];exact E),aM _⟩;obtain⟨j,l⟩:=F k c z;obtain⟨o,r⟩:=H k y A;have h:=au (Ec (λa b=>aB n a m b) p q k c y z A);replace j:=j.below (d.mono g) L;replace o:=o.below (d.mono g) M;replace l:=l.below (d.mono g);replace r:=r.below (d.mono g);clear F H z A;cases n with
   | zero=>exact j.elim
   | succ n=>
   cases m with
   | zero=>exact o.elim
   | succ m=>
   obtain⟨V,W,X,Y⟩:=j;obtain⟨y0,y1,y2,aa⟩:=o;have v:B<=wr.heap.size:=aD g d.size
   have K:Hid (∀(f:ag),ak wr f->am 16 #[.agg #[ab c.1.1,ab c.1.2.1,af c.1.2.2,ae c.2.1.1 c.2.2.length c.2.1.2],.agg #[ab y.1.1,ab y.1.2.1,af y.1.2.2,ae y.2.1.1 y.2.2.length y.2.1.2]] f λe w'=>e=.returned (.bool (aB (n+1) c (m+1) y))/\ak f w'):=
    λf u=>ih c (m+1) y B f (l.below (u.mono v)) (r.below (u.mono v)) (aD v u.size)
   clear ih l r;replace h:Hid (aG (λa b=>aB (n+1) a (m+1) b) (p.drop k) (q.drop k)=(aB (n+1) c (m+1) y && aG (λa b=>aB (n+1) a (m+1) b) (p.drop (k+1)) (q.drop (k+1)))):=h;generalize aB (n+1) c (m+1) y=O at*;generalize c.2.2.length=Z at*;generalize y.2.2.length=yl at*;have Q:(0:Int)<=(k:Int):=by omega
   have R:(k:Int)<(len:Int):=by omega
   have T:s<wr.heap.size:=by omega
   have U:t<wr.heap.size:=by omega
   go_wp2_with fail;refine(K _ (((aq _ _).alloc (ao _) _).alloc (by simp) _)).mono ?_;rintro e f ⟨rfl,C⟩;have D:ak w f:=(d.trans ((((aq _ _).alloc (ao _) _).alloc (by simp) _).mono d.size)).trans (C.mono (by have:=d.size;simp;omega));clear C;cases O with
   | true=>
    go_wp2_with fail;go_roundw
    case rel=>exact⟨k+1,by omega,by go_num,D,by rw[<-x.out,h.out];rfl⟩
    case measure=>simp[intOf];omega
   | false=>
    go_wp2_with fail
    go_ret
    exact⟨fe (by rw[<-x.out,h.out];rfl),D⟩
  ·go_wp2_with fail
   go_ret
   refine⟨fe ?_,d⟩;rw[<-x.out,gC (by rw[G.out];omega),gC (by rw[I.out];omega)];rfl
theorem pW(n m:Nat)(ih:IT n)(p:List (Tm n))(q:List (Tm m))(a c:aw)(pc h:Nat)(B:Nat)(w:ag)(f:p=[]\/∃b o,a=some ⟨b,o,none⟩/\b<B/\∀(i:Nat)(y:Tm n),p[i]?=some y->dH w b (o+i*4) n y/\In B w n y)(g:q=[]\/∃b o,c=some ⟨b,o,none⟩/\b<B/\∀(i:Nat)(y:Tm m),q[i]?=some y->dH w b (o+i*4) m y/\In B w m y)(l:p.length<=9223372036854775807)(r:q.length<=9223372036854775807)(k:B<=w.heap.size):am 17 #[ae a p.length pc,ae c q.length h] w λe w'=>e=.returned (.bool (aG (λa b=>aB n a m b) p q))/\ak w w':=by
 have s:Hid (am 36 #[ae a p.length pc,ae c q.length h,.func (Fn.func 16) #[] #[]] w λe w'=>
   e=.returned (.bool (aG (λa b=>aB n a m b) p q))/\ak w w'):=by
  by_cases d:p.length=q.length
  ·rcases f with f|⟨A,po,rfl,v,f⟩
   ·subst f;have x:q=[]:=bJ d.symm;subst x;refine(xq a c pc h w).mono ?_;rintro e w' ⟨rfl,rfl⟩;exact⟨rfl,aq _ _⟩
   ·rcases g with g|⟨C,D,rfl,z,g⟩
    ·subst g;have u:p=[]:=bJ d;subst u;refine(xq _ c pc h w).mono ?_;rintro e w' ⟨rfl,rfl⟩;exact⟨rfl,aq _ _⟩
    ·have j:=JC n m ih p q p.length rfl d.symm A po C D pc h B w (by omega) v z f g k;rw[d]at j;rw[d];exact j
  ·rw[vQ _ _ _ d];refine(JD p.length q.length a c pc h w l r (by simp;omega)).mono ?_;rintro e w' ⟨rfl,rfl⟩;exact⟨rfl,aq _ _⟩
 clear f g ih l r k;generalize p.length=pl at*;generalize q.length=E at*;generalize aG (λa b=>aB n a m b) p q=F at*;go_enter func17,ntmps17;go_wp2_with fail;refine s.mono ?_;rintro e G ⟨rfl,t⟩;go_wp2_with fail
 go_ret
 exact⟨rfl,t⟩
theorem Hw(w:ag)(k b u f:Int)(s d:ap)(a g:aw)(l i c h:Nat)(r:Bool)(H:Hid (∀w1:ag,ak w w1->am 17 #[ae a l c,ae g i h] w1 λe w'=>e=.returned (.bool r)/\ak w1 w')):am 16 #[.agg #[ab k,ab u,af s,ae a l c],.agg #[ab b,ab f,af d,ae g i h]] w λe w'=>e=.returned (.bool (k==b && u==f && s.toList==d.toList && r))/\ak w w':=by
 cases h1:k==b
 ·go_enter func16,ntmps16;go_wp2_with fail
  go_ret
  exact⟨rfl,((aq _ _).alloc (ao _) _).alloc (by simp) _⟩
 cases h2:u==f
 ·go_enter func16,ntmps16;go_wp2_with fail
  go_ret
  exact⟨rfl,((aq _ _).alloc (ao _) _).alloc (by simp) _⟩
 cases h3:s.toList==d.toList
 ·go_enter func16,ntmps16;go_wp2_with fail
  go_ret
  exact⟨rfl,((aq _ _).alloc (ao _) _).alloc (by simp) _⟩
 go_enter func16,ntmps16;go_wp2_with fail;refine(H _ (((aq _ _).alloc (ao _) _).alloc (by simp) _)).mono ?_;rintro e w1 ⟨rfl,j⟩;go_wp2_with fail
 all_goals go_ret
 all_goals exact⟨rfl,(((aq _ _).alloc (ao _) _).alloc (by simp) _).trans (j.mono (by simp;omega))⟩
theorem vR(n:Nat):IT n:=by
 induction n with
 | zero=>intro y j c p w m;exact m.elim
 | succ n ih=>
  intro y j c p w m a f;cases j with
  | zero=>exact a.elim
  | succ j=>
  obtain⟨⟨k,E,C⟩,⟨q,pc⟩,u⟩:=y;obtain⟨⟨B,F,D⟩,⟨r,x⟩,v⟩:=c;obtain⟨⟨_,_,_,z,s⟩,d⟩:=m;obtain⟨⟨_,_,_,A,t⟩,e⟩:=a;simp only at z s d A t e;unfold maxLen at s t;refine Hw w k B E F C D q r u.length v.length pc x _ (λG h=>pW n j ih u v q r pc x p G ?_ ?_ (by omega) (by omega) (aD f h.size))
  ·rcases d with d|⟨b,o,l,g,d⟩
   ·exact ai d
   ·exact aj ⟨b,o,l,g,λi c a=>⟨(d i c a).1.below (h.mono f) g,(d i c a).2.below (h.mono f)⟩⟩
  ·rcases e with e|⟨b,o,l,g,e⟩
   ·exact ai e
   ·exact aj ⟨b,o,l,g,λi c a=>⟨(e i c a).1.below (h.mono f) g,(e i c a).2.below (h.mono f)⟩⟩
structure BL where
 b:Nat
 o:Nat
 c:Array av
 t:TypeId
def tH(p:BL)(a:Option Nat)(w:ag):Prop:=(p.o<p.c.size/\p.t≠31)/\w.heap[p.b]?=some (.cells (p.c.setIfInBounds p.o (.map a)) p.t (0,0))
theorem tH.cell{p:BL}{c:Option Nat}{w:ag}(a:tH p c w):w.cell? ⟨p.b,p.o,none⟩=some (.map c)/\∀j,w.frozen? ⟨p.b,j,none⟩=false:=by
 refine⟨?_,λj=>by simp[World.frozen?,a.2]⟩;simp[World.cell?,a.2,a.1.1]
variable{p:BL}
theorem tH.lt(a:tH p f w):p.b<w.heap.size:=(aJ.1 a.2).1
theorem tH.kept{p:BL}{c:Option Nat}{w w':ag}(a:tH p c w)(d:w'.heap[p.b]?=w.heap[p.b]?):tH p c w':=⟨a.1,d.trans a.2⟩
theorem tH.set{mo':Option Nat}(a:tH p f w):tH p mo' (w.setCell ⟨p.b,p.o,none⟩ (.map mo')):=by
 refine⟨a.1,?_⟩;simp[World.setCell,bO,a.2]
def ii(base:Nat)(c:BL)(a:Option Nat)(n N:Nat)(f:Int×Int->List (Tm N))(sl:Int×Int->av)(w:ag):Prop:=
 base<=c.b/\tH c a w/\((a=none/\f=(λ_=> [])/\sl=λ_=>mH)\/∃mb,a=some mb/\GM base mb n N f sl w)
def r9(c:BL)(a:Option Nat)(sl:Int×Int->av)(b:Nat):Prop:=b=c.b\/a=some b\/∃k,I2 k/\(sl k).ownBlock=some b
variable {base n N:Nat} {wp:BL} {mo:Option Nat} {f:Int×Int->List (Tm N)} {sl:Int×Int->av} {w:ag}
theorem ii.lt(c:ii base wp mo n N f sl w)(b:Nat)(a:r9 wp mo sl b):base<=b/\b<w.heap.size:=by
 obtain⟨d,e,g⟩:=c;rcases a with rfl|a
 ·exact⟨d,e.lt⟩
 ·rcases g with⟨rfl,_,rfl⟩|⟨mb,rfl,h⟩
  ·rcases a with a|⟨k,_,a⟩
   ·cases a
   ·simp[mH,Value.ownBlock]at a
  ·refine h.lt b ?_;rcases a with a|a
   ·exact ai (aA a).symm
   ·exact aj a
theorem Ff{c:BL}{b:Nat}{sl:Int×Int->av}(a:Ny h sl b):r9 c (some h) sl b:=by
 rcases a with rfl|a
 ·exact aj (ai rfl)
 ·exact aj (aj a)
theorem ii.kee{S:aR}{w':ag}(c:ii base wp mo n N f sl w)(k:bB S w w')(d:∀b,r9 wp mo sl b->¬S b):ii base wp mo n N f sl w':=by
 have j:=(c.lt wp.b (ai rfl)).2;obtain⟨e,g,a⟩:=c;refine⟨e,g.kept (k.block wp.b j (d wp.b (ai rfl))),?_⟩;rcases a with a|⟨mb,rfl,i⟩
 ·exact ai a
 ·exact aj ⟨mb,rfl,i.kee k λb h=>d b (Ff h)⟩
theorem ii.later{w':ag}(a:ii base wp mo n N f sl w)(k:ak w w'):ii base wp mo n N f sl w':=a.kee (aO k λ_=>False) λ_ _ b=>b
theorem ii.row(a:ii base wp mo n N f sl w){k:Int×Int}(c:I2 k):oc base N (sl k) (f k) w:=by
 rcases a.2.2 with⟨_,rfl,rfl⟩|⟨mb,_,b⟩
 ·exact⟨by simp[dv,cH],ai ⟨rfl,rfl⟩⟩
 ·exact b.row k c
theorem ii.look(b:ii base wp mo n N f sl w){k:Int×Int}(a:I2 k):(Instr.lookup 51 (.map mo) (pk k) false).run Tryz.prog w=.ok (sl k) w:=by
 rcases b.2.2 with⟨rfl,_,rfl⟩|⟨mb,rfl,c⟩
 ·exact GQ w a
 ·exact c.look a
theorem ii.cell(a:ii base wp mo n N f sl w):w.cell? ⟨wp.b,wp.o,none⟩=some (.map mo)/\∀j,w.frozen? ⟨wp.b,j,none⟩=false:=by
 exact a.2.1.cell
theorem oc.sliced(d:oc base N v l w):∃a c,v=.slice a l.length c:=by
 rcases d.2 with⟨rfl,b⟩|⟨f,cap,e,rfl,_⟩
 ·exact⟨none,0,by rw[b]⟩
 ·exact⟨_,_,rfl⟩
theorem IK(c:ii base wp mo n N f sl w){b:Int}(g:I2 (a,b)):am 160 #[.pointer (some ⟨wp.b,wp.o,none⟩),ab a,ab b] w λe w'=>e=.returned (ab (f (a,b)).length)/\w'=w:=by
 have i:=c.cell.1;obtain⟨sa,sc,h⟩:=(c.row g).sliced;have d:=c.look g;rw[h]at d;unfold pk at d;simp only at d;clear c;go_enter func160,ntmps160;go_wp2_with fail
 go_ret
 exact⟨rfl,rfl⟩
theorem Fp(a:Int)(w:ag):am 159 #[ab a] w λe w'=>e=.returned (.bool (decide (1<=a) && decide (a<=99)))/\w'=w:=by
 go_enter func159,ntmps159;by_cases b:1<=a<;>by_cases c:a<=99
 all_goals
  go_wp2_with fail
  go_ret
  simp[b,c]
variable {base mb n N:Nat} {f:Int×Int->List (Tm N)} {sl:Int×Int->av} {w wr:ag}
def NN(base mb n N:Nat)(f:Int×Int->List (Tm N))(sl:Int×Int->av)(k:Int×Int)(g:Nat)(W e:ag):Prop:=
 ∀(a:ag)(c:av)(l:List (Tm N)),a.heap[mb]?=e.heap[mb]? ->bB (λb=>b=mb\/(sl k).ownBlock=some b) W a->l≠[]->oc base N c l a->(∀b,c.ownBlock=some b->(sl k).ownBlock=some b\/W.heap.size<=b)->
  ∃d,(Instr.entryStore 51 (.map (some mb)) (goInt g) c).run Tryz.prog a=.ok () d/\GM base mb (n+1) N (iN f k l) (iN sl k c) d/\bB (λb=>b=mb) a d/\d.heap.size=a.heap.size
def PI(base mb n N:Nat)(f:Int×Int->List (Tm N))(sl:Int×Int->av)(k:Int×Int)(y:Tm N)(wr c:ag):Prop:=
 ∃a,GM base mb (n+1) N (iN f k (f k++ [y])) (iN sl k a) c/\bB (Ny mb sl) wr c/\∀b,Ny mb (iN sl k a) b->Ny mb sl b\/wr.heap.size<=b
theorem GM.open(d:GM base mb n N f sl wr)(h:I2 k)(i:n<1000000)(e:ak wr W):∃(c:Nat)(a:ag),(Instr.mapEntry 51 (.map (some mb)) (pk k)).run Tryz.prog W=.ok (.tuple #[sl k,goInt c]) a/\bB (λb=>b=mb) W a/\a.heap.size=W.heap.size/\NN base mb n N f sl k c W a:=
 (d.kee (aO e λ_=>False) λ_ _ g=>g).entry h i
theorem NN.done(p:GM base mb n N f sl wr)(t:I2 k){l e:ag}(B:NN base mb n N f sl k h W i)(r:ak wr W)(J:bB (λb=>b=mb) W i)(M:i.heap.size=W.heap.size)(m:ak i l)(D:l.grownBy e (sl k).ownBlock){y:Tm N}(z:(f k).length=L)(F:e.ownsRow base 31 4 (ae (some ⟨g,0,none⟩) (L+1) c) (L+1) (dv N (f k)++vA (gu N y)))(A:(sl k).ownBlock=some g\/g=l.heap.size):∃j,(Instr.entryStore 51 (.map (some mb)) (goInt h) (ae (some ⟨g,0,none⟩) (L+1) c)).run Tryz.prog e=.ok () j/\PI base mb n N f sl k y wr j/\bB (λb=>b=mb) e j/\j.heap.size=e.heap.size:=by
 subst z;have K:=p.lt mb (ai rfl);have P:=r.size;have O:=m.size;have w:=eA D;have I:(Value.slice (some ⟨g,0,none⟩) ((f k).length+1) c).ownBlock=some g:=rfl;have v:∀b,(Value.slice (some ⟨g,0,none⟩) ((f k).length+1) c).ownBlock=some b->(sl k).ownBlock=some b\/W.heap.size<=b:=λb d=>by
  rw[I]at d;injection d with d;subst d;rcases A with a|a
  ·exact ai a
  ·exact aj (by omega)
 have q:bB (λb=>b=mb\/(sl k).ownBlock=some b) W e:=by
  refine bB.trans (bB.trans (J.mono λb _ a=>ai a) (aO m λ_=>False) λ_ _ C=>C.elim) w λb _ a=>aj a
 have E:e.heap[mb]?=i.heap[mb]? :=(w.block mb (by omega) (p.ne t)).trans (m.block mb (by omega))
 obtain⟨j,G,x,u,H⟩:=B e _ (f k++ [y]) E q (by simp) (by
  unfold oc;rw[pX,bw];have a:dv N [y]=vA (gu N y):=by simp[dv,cH]
  rw[a]
  exact F) v
 refine⟨j,G,⟨_,x,?_,λb d=>?_⟩,u,H⟩
 ·refine bB.trans (bB.trans (aO r _) (q.mono (T:=λb=>b=mb\/(sl k).ownBlock=some b) λb _ a=>a) λb _ a=>?_) u λb _ a=>ai a;rcases a with a|a
  ·exact ai a
  ·exact aj ⟨k,t,a⟩
 ·rcases d with d|⟨o,s,d⟩
  ·exact ai (ai d)
  ·by_cases a:o=k
   ·subst a;rw[cU]at d;rcases v b d with a|a
    ·exact ai (aj ⟨o,s,a⟩)
    ·exact aj (by omega)
   ·rw[bY _ _ a]at d;exact ai (aj ⟨o,s,d⟩)
section
variable {ops:Array Oper} {o:Oper} {a:Act} {K:Act->ag->Prop} {Q:Exit->Act->ag->Prop} {E:Prop}
end
variable {base n N:Nat} {wp:BL} {mo:Option Nat} {f:Int×Int->List (Tm N)} {sl:Int×Int->av} {w:ag}
def NZ(base:Nat)(wp:BL)(mo:Option Nat)(n N:Nat)(f:Int×Int->List (Tm N))(sl:Int×Int->av)(k:Int×Int)(l:List (Tm N))(w w':ag):Prop:=
 ∃a c,ii base wp a (n+1) N (iN f k l) c w'/\bB (r9 wp mo sl) w w'/\∀b,r9 wp a c b->r9 wp mo sl b\/w.heap.size<=b
theorem GF:(Tryz.prog.info? 31).map (λi=>(i.zero,i.size,i.bytes))=some (some (.agg #[ab 0,ab 0,af ⟨#[]⟩,ae none 0 0]),4,56):=by kernel_rfl
theorem Mg(mb:Nat)(W:ag):(binOp .eql 51 (.map (some mb)) (.map none)).run Tryz.prog W=.ok (.bool false) W:=by kernel_rfl
theorem Mf(W:ag):(binOp .eql 51 (.map none) (.map none)).run Tryz.prog W=.ok (.bool true) W:=by kernel_rfl
theorem fE{S:aR}(a:bB S W i){b:Nat}(d:b<W.heap.size)(c:¬S b):∀o v,W.cell? ⟨b,o,none⟩=some v->i.cell? ⟨b,o,none⟩=some v:=λo _ e=>(a.cell o d c).trans e
theorem EP(wp:BL)(mb:Nat)(i j:Int)(y0 y1:Int)(ys:ByteArray)(ya:Option Addr)(yl yc L sc:Nat)(sa:Option Addr)(xs:List Value)(base:Nat)(w wr:World)(ar:World->Nat->World->Prop)(aj:World->Prop)(bb:L<1000)(bd:base<=w.heap.size)(ai:wp.b<w.heap.size)(a2:(mb<w.heap.size/\wp.b≠mb/\wr=(w.alloc (.cells #[.int .i64 i,.int .i64 j] 44)).alloc (.cells #[.int .i64 y0,.int .i64 y1,.string ys,.slice ya yl yc] 31)/\(∀b,(Value.slice sa L sc).ownBlock=some b->b<w.heap.size/\b≠wp.b)/\Hid (w.cell? ⟨wp.b,wp.o,none⟩=some (.map (some mb))))\/(mb=w.heap.size+1+1/\wr=(((w.alloc (.cells #[.int .i64 i,.int .i64 j] 44)).alloc (.cells #[.int .i64 y0,.int .i64 y1,.string ys,.slice ya yl yc] 31)).alloc (.map #[] 0)).setCell ⟨wp.b,wp.o,none⟩ (.map (some mb))/\(∀b,(Value.slice sa L sc).ownBlock=some b->b<w.heap.size/\b≠wp.b)/\Hid (tH wp none w)))(aT:Hid (∀W,bB (λb=>b=mb) wr W->W.ownsRow base 31 4 (.slice sa L sc) L xs))(aK:Hid (∀W,Below wr.heap.size wr W->∃(z:Nat)(a:World),(Instr.mapEntry 51 (.map (some mb)) (pk (i,j))).run Tryz.prog W=.ok (.tuple #[.slice sa L sc,goInt z]) a/\(bB (λb=>b=mb) W a/\a.heap.size=W.heap.size/\ar W z a)))(aU:Hid (∀W z a aa h g c,ar W z a->Below wr.heap.size wr W->bB (λb=>b=mb) W a->a.heap.size=W.heap.size->Below a.heap.size a aa->aa.grownBy h (Value.slice sa L sc).ownBlock->h.ownsRow base 31 4 (.slice (some ⟨g,0,none⟩) (L+1) c) (L+1) (xs++ [.int .i64 y0,.int .i64 y1,.string ys,.slice ya yl yc])->((Value.slice sa L sc).ownBlock=some g\/g=aa.heap.size)-> ∃l,(Instr.entryStore 51 (.map (some mb)) (goInt z) (.slice (some ⟨g,0,none⟩) (L+1) c)).run Tryz.prog h=.ok () l/\(aj l/\bB (λb=>b=mb) h l/\l.heap.size=h.heap.size))):Calls Tryz.prog 161 #[.pointer (some ⟨wp.b,wp.o,none⟩),.agg #[.int .i64 i,.int .i64 j],.agg #[.int .i64 y0,.int .i64 y1,.string ys,.slice ya yl yc]] w λe w'=>e=.returned (.tuple #[])/\aj w':=by
 obtain⟨D,az,aH,aI,aJ⟩:=bW GF;have M:Hid (Tryz.prog.info? 31=some D/\D.zero=some (.agg #[.int .i64 0,.int .i64 0,.string ⟨#[]⟩,.slice none 0 0])/\D.size=4/\D.bytes=56):=⟨az,aH,aI,aJ⟩;clear az aH aI aJ;rcases a2 with⟨ag,ah,m,T,A⟩|⟨ag,m,T,A⟩
 case' inl=>
  have ab:=A.out;have aL:=Mg mb;have O:Hid (∃f d,f=w.heap.size/\d=w.heap.size+1):=⟨_,_,rfl,rfl⟩;go_enter func161,ntmps161;go_wp2_with fail;obtain⟨f,d,x,y⟩:=O.out;rw[<-m,<-y,<-x];have aG:wr.heap.size=w.heap.size+2:=by rw[m];simp
  have ak:Hid (Below w.heap.size w wr):=by
   rw[m];exact((aq _ _).alloc (ao _) _).alloc (by simp) _
  have Y:Hid (wr.heap[f]?=some (.cells #[.int .i64 i,.int .i64 j] 44)):=by
   rw[m,x];exact(((aq _ _).alloc (ao _) _).block w.heap.size (by simp)).trans (aF w _)
  have Z:Hid (wr.heap[d]?=some (.cells #[.int .i64 y0,.int .i64 y1,.string ys,.slice ya yl yc] 31)):=by
   rw[m,y];have s:=aF (w.alloc (.cells #[.int .i64 i,.int .i64 j] 44)) (.cells #[.int .i64 y0,.int .i64 y1,.string ys,.slice ya yl yc] 31);have e:(w.alloc (.cells #[.int .i64 i,.int .i64 j] 44)).heap.size=w.heap.size+1:=by simp
   rwa [e]at s
  have V:Hid (wr.cell? ⟨wp.b,wp.o,none⟩=some (.map (some mb))):=(ak.cell (p:=⟨wp.b,wp.o,none⟩) ai).trans ab;clear ak
 case' inr=>
  have ab:w.cell? ⟨wp.b,wp.o,none⟩=some (.map none):=A.cell.1;have ad:tH wp none (((w.alloc (.cells #[.int .i64 i,.int .i64 j] 44)).alloc (.cells #[.int .i64 y0,.int .i64 y1,.string ys,.slice ya yl yc] 31)).alloc (.map #[] 0)):=A.kept (((((aq w.heap.size w).alloc (ao _) _).alloc (by simp) _).alloc (by simp;omega) _).block wp.b ai);have a9:(((w.alloc (.cells #[.int .i64 i,.int .i64 j] 44)).alloc (.cells #[.int .i64 y0,.int .i64 y1,.string ys,.slice ya yl yc] 31)).alloc (.map #[] 0)).frozen? ⟨wp.b,wp.o,none⟩=false:=ad.cell.2 _;have ba:(((w.alloc (.cells #[.int .i64 i,.int .i64 j] 44)).alloc (.cells #[.int .i64 y0,.int .i64 y1,.string ys,.slice ya yl yc] 31)).alloc (.map #[] 0)).cell? ⟨wp.b,wp.o,none⟩=some (.map none):=ad.cell.1;clear ad;have ah:wp.b≠mb:=by omega
  have aL:=Mf;have be:= @run_makeMap Tryz.prog;have O:Hid (∃f d,f=w.heap.size/\d=w.heap.size+1):=⟨_,_,rfl,rfl⟩;go_enter func161,ntmps161;go_wp2_with fail;obtain⟨f,d,x,y⟩:=O.out;rw[<-ag,<-m,<-y,<-x];have aG:wr.heap.size=w.heap.size+3:=by rw[m];simp[World.setCell]
  have ae:∀b,b≠wp.b->wr.heap[b]?=(((w.alloc (.cells #[.int .i64 i,.int .i64 j] 44)).alloc (.cells #[.int .i64 y0,.int .i64 y1,.string ys,.slice ya yl yc] 31)).alloc (.map #[] 0)).heap[b]? :=λb C=>by
   rw[m];have:wp.b≠b:=λe=>C e.symm;simp[World.setCell,bO,this]
  have Y:Hid (wr.heap[f]?=some (.cells #[.int .i64 i,.int .i64 j] 44)):=by
   rw[ae f (by omega),x];exact((((aq _ _).alloc (ao _) _).alloc (by simp) _).block w.heap.size (by simp)).trans (aF w _)
  have Z:Hid (wr.heap[d]?=some (.cells #[.int .i64 y0,.int .i64 y1,.string ys,.slice ya yl yc] 31)):=by
   rw[ae d (by omega),y];have s:=aF (w.alloc (.cells #[.int .i64 i,.int .i64 j] 44)) (.cells #[.int .i64 y0,.int .i64 y1,.string ys,.slice ya yl yc] 31);have e:(w.alloc (.cells #[.int .i64 i,.int .i64 j] 44)).heap.size=w.heap.size+1:=by simp
   rw[e]at s;exact(((aq _ _).alloc (ao _) _).block (w.heap.size+1) (by simp)).trans s
  have V:Hid (wr.cell? ⟨wp.b,wp.o,none⟩=some (.map (some mb))):=by
   rw[m];exact(tH.set (mo':=some mb) (A.kept (((((aq w.heap.size w).alloc (ao _) (.cells #[.int .i64 i,.int .i64 j] 44)).alloc (by simp) (.cells #[.int .i64 y0,.int .i64 y1,.string ys,.slice ya yl yc] 31)).alloc (by simp;omega) (.map #[] 0)).block wp.b ai))).cell.1
  clear ae
 all_goals
  have aA:f<wr.heap.size:=by omega
  have aB:d<wr.heap.size:=by omega
  have aC:wp.b<wr.heap.size:=by omega
  have a4:mb<wr.heap.size:=by omega
  have bc:base<=wr.heap.size:=by omega
  have S:f≠mb:=by omega
  have u:d≠mb:=by omega
  have U:∀b,(Value.slice sa L sc).ownBlock=some b->b≠f/\b≠d/\b≠wp.b:=λb C=>⟨by have:=(T b C).1;omega,by have:=(T b C).1;omega,(T b C).2⟩;have N:Hid (∀W,Below wr.heap.size wr W->W.cell? ⟨wp.b,wp.o,none⟩=some (.map (some mb))/\(W.cell? ⟨f,0,none⟩=some (.int .i64 i)/\W.cell? ⟨f,1,none⟩=some (.int .i64 j))/\(W.cell? ⟨d,0,none⟩=some (.int .i64 y0)/\W.cell? ⟨d,1,none⟩=some (.int .i64 y1)/\W.cell? ⟨d,2,none⟩=some (.string ys)/\W.cell? ⟨d,3,none⟩=some (.slice ya yl yc))):=by
   intro W n;have aw:=(n.block f aA).trans Y;have Q:=(n.block d aB).trans Z;exact⟨(n.cell (p:=⟨wp.b,wp.o,none⟩) aC).trans V,⟨by simp[World.cell?,aw],by simp[World.cell?,aw]⟩,by simp[World.cell?,Q],by simp[World.cell?,Q],by simp[World.cell?,Q],by simp[World.cell?,Q]⟩
  have X:Hid (∀B W a,bB B W a->wr.heap.size<=W.heap.size->¬B wp.b->¬B f->¬B d->(W.cell? ⟨wp.b,wp.o,none⟩=some (.map (some mb))/\(W.cell? ⟨f,0,none⟩=some (.int .i64 i)/\W.cell? ⟨f,1,none⟩=some (.int .i64 j))/\(W.cell? ⟨d,0,none⟩=some (.int .i64 y0)/\W.cell? ⟨d,1,none⟩=some (.int .i64 y1)/\W.cell? ⟨d,2,none⟩=some (.string ys)/\W.cell? ⟨d,3,none⟩=some (.slice ya yl yc)))->
    a.cell? ⟨wp.b,wp.o,none⟩=some (.map (some mb))/\(a.cell? ⟨f,0,none⟩=some (.int .i64 i)/\a.cell? ⟨f,1,none⟩=some (.int .i64 j))/\(a.cell? ⟨d,0,none⟩=some (.int .i64 y0)/\a.cell? ⟨d,1,none⟩=some (.int .i64 y1)/\a.cell? ⟨d,2,none⟩=some (.string ys)/\a.cell? ⟨d,3,none⟩=some (.slice ya yl yc))):=by
   rintro B W a k bf a6 a7 a8 ⟨E,⟨F,G⟩,H,I,J,K⟩;have aX:=fE k (b:=wp.b) (by omega) a6;have av:=fE k (b:=f) (by omega) a7;have P:=fE k (b:=d) (by omega) a8;exact⟨aX _ _ E,⟨av _ _ F,av _ _ G⟩,P _ _ H,P _ _ I,P _ _ J,P _ _ K⟩
  have am:Hid (∀W a,Below wr.heap.size wr W->bB (λb=>b=mb) W a->a.cell? ⟨wp.b,wp.o,none⟩=some (.map (some mb))/\(a.cell? ⟨f,0,none⟩=some (.int .i64 i)/\a.cell? ⟨f,1,none⟩=some (.int .i64 j))/\(a.cell? ⟨d,0,none⟩=some (.int .i64 y0)/\a.cell? ⟨d,1,none⟩=some (.int .i64 y1)/\a.cell? ⟨d,2,none⟩=some (.string ys)/\a.cell? ⟨d,3,none⟩=some (.slice ya yl yc))):=
   λW a n k=>X _ W a k n.size ah S u (N W n)
  have aS:Hid (∀W a h,Below wr.heap.size wr W->bB (λb=>b=mb) W a->a.grownBy h (Value.slice sa L sc).ownBlock->h.cell? ⟨wp.b,wp.o,none⟩=some (.map (some mb))/\(h.cell? ⟨f,0,none⟩=some (.int .i64 i)/\h.cell? ⟨f,1,none⟩=some (.int .i64 j))/\(h.cell? ⟨d,0,none⟩=some (.int .i64 y0)/\h.cell? ⟨d,1,none⟩=some (.int .i64 y1)/\h.cell? ⟨d,2,none⟩=some (.string ys)/\h.cell? ⟨d,3,none⟩=some (.slice ya yl yc))):=
   λW a h n k a3=>X _ a h (eA a3) (aD n.size k.size) (λe=>(U _ e).2.2 rfl) (λe=>(U _ e).1 rfl) (λe=>(U _ e).2.1 rfl) (am W a n k)
  have q:Hid (Below wr.heap.size wr (wr.alloc (.cells #[.int .i64 y0,.int .i64 y1,.string ys,.slice ya yl yc] 31)).drew):=(show Below _ _ _ by go_grown);have ap:Hid ((wr.alloc (.cells #[.int .i64 y0,.int .i64 y1,.string ys,.slice ya yl yc] 31)).drew.heap.size=wr.heap.size+1):=(show _=_ by simp[World.drew]);have aM:Hid (∀a,bB (λb=>b=mb) (wr.alloc (.cells #[.int .i64 y0,.int .i64 y1,.string ys,.slice ya yl yc] 31)).drew a->bB (λb=>b=mb) wr a):=λa k=>bB.trans (aO q _) k λ_ _ e=>e
  have aN:Hid (∀a,bB (λb=>b=mb) (wr.alloc (.cells #[.int .i64 y0,.int .i64 y1,.string ys,.slice ya yl yc] 31)).drew a->a.heap[wr.heap.size]?=some (.cells #[.int .i64 y0,.int .i64 y1,.string ys,.slice ya yl yc] 31)):=
   λa k=>(k.block wr.heap.size (by rw[ap.out];omega) (by omega)).trans (aF wr _)
  have aR:Hid (∀h l,(h.cell? ⟨wp.b,wp.o,none⟩=some (.map (some mb))/\(h.cell? ⟨f,0,none⟩=some (.int .i64 i)/\h.cell? ⟨f,1,none⟩=some (.int .i64 j))/\(h.cell? ⟨d,0,none⟩=some (.int .i64 y0)/\h.cell? ⟨d,1,none⟩=some (.int .i64 y1)/\h.cell? ⟨d,2,none⟩=some (.string ys)/\h.cell? ⟨d,3,none⟩=some (.slice ya yl yc)))->bB (λb=>b=mb) h l->(l.cell? ⟨wp.b,wp.o,none⟩=some (.map (some mb))/\(l.cell? ⟨f,0,none⟩=some (.int .i64 i)/\l.cell? ⟨f,1,none⟩=some (.int .i64 j))/\(l.cell? ⟨d,0,none⟩=some (.int .i64 y0)/\l.cell? ⟨d,1,none⟩=some (.int .i64 y1)/\l.cell? ⟨d,2,none⟩=some (.string ys)/\l.cell? ⟨d,3,none⟩=some (.slice ya yl yc)))):=by
   rintro h l ⟨E,⟨F,G⟩,H,I,J,K⟩ k;have lt:=λ(b o:Nat)(v:Value)(s:h.cell? ⟨b,o,none⟩=some v)=>fD h ⟨b,o,none⟩ s;exact⟨fE k (lt _ _ _ E) ah _ _ E,⟨fE k (lt _ _ _ F) S _ _ F,fE k (lt _ _ _ G) S _ _ G⟩,fE k (lt _ _ _ H) u _ _ H,fE k (lt _ _ _ I) u _ _ I,fE k (lt _ _ _ J) u _ _ J,fE k (lt _ _ _ K) u _ _ K⟩
  obtain⟨E,⟨F,G⟩,H,I,J,K⟩:=N.out wr (aq _ _);obtain⟨z,a,a0,R⟩:=aK _ q;have r:=au R;have aP:=au (am _ _ q R.1);have aW:=au (R.2.1.trans ap);simp only[pk,goInt]at a0;clear R;clear ag x y m O aG V Y Z X ab aA aB aC a4 S u U;go_wp2_with fail
  go_region_held3 (λW=>W.cell? ⟨wp.b,wp.o,none⟩=some (.map (some mb))/\(W.cell? ⟨f,0,none⟩=some (.int .i64 i)/\W.cell? ⟨f,1,none⟩=some (.int .i64 j))/\(W.cell? ⟨d,0,none⟩=some (.int .i64 y0)/\W.cell? ⟨d,1,none⟩=some (.int .i64 y1)/\W.cell? ⟨d,2,none⟩=some (.string ys)/\W.cell? ⟨d,3,none⟩=some (.slice ya yl yc)))
   (first|(go_keep;done)|exact N _ (aq _ _).drew|exact N _ q|exact aP|exact al|exact aQ) ((first
    | (refine step_append_lies _ rfl _ _ 29 rfl base 31 D _ 4 56 underlying29 M.1 M.2.1 M.2.2.1 M.2.2.2 rfl (by decide) (.slice sa L sc) L xs (by simp[Act.eval]) (aT _ (aM _ r.1)) ⟨wr.heap.size,0,none⟩ 1 1 [.int .i64 y0,.int .i64 y1,.string ys,.slice ya yl yc] (by simp[Act.eval]) rfl (World.news_of_block (cs:= #[.int .i64 y0,.int .i64 y1,.string ys,.slice ya yl yc]) (t:=31) (fr:=(0,0)) (aN _ r.1)) (by simp[Value.oneCell']) (by decide) (by unfold maxLen;omega) (by omega) (by have:=aW.out;omega) _ rfl ?_;intro aZ aY h aE af ay a5;have aV:=aU _ _ _ _ _ aZ aY r.2.2 q r.1 r.2.1 (aq _ _) af aE ay;obtain⟨l,a1,ax⟩:=aV;have an:=au ax;simp only[goInt]at a1;have al:=au (aS _ _ _ q r.1 af);have aQ:=au (aR _ _ al an.2.1);clear aE af ay a5 ax)))
  exact dn (v:=.tuple #[]) (by simp[results]) rfl ⟨rfl,an.1⟩
theorem uL(x y:Int):(x<y/\lG x y=-1)\/(x=y/\lG x y=0)\/(y<x/\lG x y=1):=by
 unfold lG;by_cases a:x<y
 ·rw[if_pos a];exact ai ⟨a,rfl⟩
 ·rw[if_neg a];by_cases b:y<x
  ·rw[if_pos b];exact aj (aj ⟨b,rfl⟩)
  ·rw[if_neg b];exact aj (ai ⟨by omega,rfl⟩)
theorem I8:(x y:List UInt8)->Op.bytesLess x y=true->Op.bytesLess y x=false
 | _,[],c=>by simp[Op.bytesLess]at c
 | [],_::_,_=>by simp[Op.bytesLess]
 | a::x,b::y,c=>by
  simp only[Op.bytesLess,iB,co,aK,cF]at c;simp only[Op.bytesLess,Bool.or_eq_false_iff,decide_eq_false_iff_not,Bool.and_eq_false_iff,iH];rcases c with c|⟨rfl,c⟩
  ·rw[pF]at c;refine⟨by rw[pF];omega,ai λe=>by subst e;omega⟩
  ·exact⟨by rw[pF];omega,aj (I8 x y c)⟩
theorem I9:(x y:List UInt8)->Op.bytesLess x y=false->Op.bytesLess y x=false->x=y
 | [],[],_,_=>rfl
 | [],_::_,h,_=>by simp[Op.bytesLess]at h
 | _::_,[],_,h=>by simp[Op.bytesLess]at h
 | a::x,b::y,h,h'=>by
  simp only[Op.bytesLess,Bool.or_eq_false_iff,decide_eq_false_iff_not,Bool.and_eq_false_iff,iH]at h h';obtain⟨c,d⟩:=h;obtain⟨f,g⟩:=h';have e:a=b:=by
   rw[pF]at c f;exact UInt8.toNat_inj.1 (by omega)
  subst e;rw[I9 x y (d.resolve_left (λn=>n rfl)) (g.resolve_left (λn=>n rfl))]
theorem xh(l:List UInt8):Op.bytesLess l l=false:=by
 induction l with
 | nil=>rfl
 | cons a l ih=>simp[Op.bytesLess,ih]
theorem Jj(x y:ap):(Op.bytesLess x.toList y.toList=true/\wK x y=-1)\/(x.toList=y.toList/\wK x y=0)\/(Op.bytesLess y.toList x.toList=true/\wK x y=1):=by
 unfold wK;cases h:Op.bytesLess x.toList y.toList
 ·by_cases a:x.toList=y.toList
  ·rw[a];simp
  ·have c:Op.bytesLess y.toList x.toList=true:=by
     cases h2:Op.bytesLess y.toList x.toList
     ·exact(a (I9 _ _ h h2)).elim
     ·rfl
   have b:(x.toList==y.toList)=false:=by simpa using a
   rw[b];simp[c]
 ·simp
theorem dq{x:Tm 0}(c:∀a∈aC 0 x,cJ a=true):False:=by
 have:=c ((0,0,.empty),(none,0,0)) (by simp[aC]);rcases kC _ this with b|b|b|b|b|⟨b,_⟩<;>simp at b
theorem xM{h β:Type}(f:h->β->Int)(g:h->β->Bool):(p:List h)->(q:List β)->p.length=q.length->(∀a∈p,∀b∈q,(f a b=0 ↔ g a b=true))->(pP f p q=0 ↔ aG g p q=true)
 | [],[],_,_=>by simp[pP,aG]
 | [],_::_,e,_=>by simp at e
 | _::_,[],e,_=>by simp at e
 | a::p,b::q,e,H=>by
  have i:=H a (by simp) b (by simp);have l:=xM f g p q (by simpa using e) (λj m k n=>H j (by simp[m]) k (by simp[n]));simp only[pP,aG,aK];by_cases d:f a b=0
  ·rw[if_pos d,l];exact⟨λc=>⟨i.1 d,c⟩,λc=>c.2⟩
  ·rw[if_neg d];exact⟨λc=>(d c).elim,λc=>(d (i.2 c.1)).elim⟩
theorem eR(x:Nd)(b:cJ x=true):(x.1.1≠2->x.1.2.2.toList=[])/\(x.1.1=2->x.1.2.1=0)/\(x.1.1=4->x.1.2.1=0)/\(x.1.1=6->x.1.2.1=0)/\(x.1.1≠4->x.2.2.1=0):=by
 have c:=kC x b;unfold cJ at b;rcases c with a|a|a|a|a|⟨a,d⟩
 all_goals (rw[a]at b ⊢;simp at b ⊢;simp[b])
theorem BP:(n:Nat)->(x:Tm n)->(m:Nat)->(y:Tm m)->(∀a∈aC n x,cJ a=true)->(∀a∈aC m y,cJ a=true)->(xL n x m y=0 ↔ aB n x m y=true)
 | 0,_,_,_,f,_=>(dq f).elim
 | _+1,_,0,_,_,f=>(dq f).elim
 | n+1,x,m+1,y,hx,hy=>by
  have l:=eR _ (hx (x.1,(x.2.1.1,x.2.2.length,x.2.1.2)) (by simp[aC]));have j:=eR _ (hy (y.1,(y.2.1.1,y.2.2.length,y.2.1.2)) (by simp[aC]));have D:=kC _ (hx (x.1,(x.2.1.1,x.2.2.length,x.2.1.2)) (by simp[aC]));have I:=λe=>xM (λa b=>xL n a m b) (λa b=>aB n a m b) x.2.2 y.2.2 e (λa G b H=>BP n a m b (λd z=>hx d (oZ G z)) (λd z=>hy d (oZ H z)));simp only at l j D;simp only[xL,aB];have F:=Jj x.1.2.2 y.1.2.2;have M:=uL x.1.2.1 y.1.2.1;have N:=uL x.1.1 y.1.1;have O:=uL x.2.2.length y.2.2.length;obtain⟨⟨k,u,s⟩,⟨a,c⟩,p⟩:=x;obtain⟨⟨C,A,J⟩,⟨K,L⟩,q⟩:=y;simp only at*;clear hx hy;by_cases e:k=C
  ·subst e;rw[if_pos rfl];have o:k≠4->p=[]/\q=[]:=λf=>⟨bJ (l.2.2.2.2 f),bJ (j.2.2.2.2 f)⟩;have r:k≠2->s.toList=[]/\J.toList=[]:=λf=>⟨l.1 f,j.1 f⟩;rcases D with g|g|g|g|g|⟨g,E⟩
   ·subst g;obtain⟨rfl,rfl⟩:=o (by decide);obtain⟨h,i⟩:=r (by decide);rw[if_pos (by decide),h,i];simp[aG];omega
   ·subst g;obtain⟨rfl,rfl⟩:=o (by decide);have B:u=0:=l.2.1 rfl;have t:A=0:=j.2.1 rfl;subst B t;rw[if_neg (by decide),if_pos rfl];simp[aG];rcases F with⟨f,w⟩|⟨f,w⟩|⟨f,w⟩
    ·refine⟨λe=>by omega,λe=>?_⟩;rw[e,xh]at f;cases f
    ·exact⟨λ_=>f,λ_=>w⟩
    ·refine⟨λe=>by omega,λe=>?_⟩;rw[e,xh]at f;cases f
   ·subst g;obtain⟨rfl,rfl⟩:=o (by decide);obtain⟨h,i⟩:=r (by decide);rw[if_pos (by decide),h,i];simp[aG];omega
   ·subst g;obtain⟨h,i⟩:=r (by decide);have B:u=0:=l.2.2.1 rfl;have t:A=0:=j.2.2.1 rfl;subst B t;rw[if_neg (by decide),if_neg (by decide),if_pos rfl,h,i];by_cases v:p.length=q.length
    ·rw[if_pos v,I v];simp
    ·rw[if_neg v,vQ _ _ _ v];simp;omega
   ·subst g;obtain⟨rfl,rfl⟩:=o (by decide);obtain⟨h,i⟩:=r (by decide);rw[if_pos (by decide),h,i];simp[aG];omega
   ·subst g;obtain⟨rfl,rfl⟩:=o (by decide);obtain⟨h,i⟩:=r (by decide);have t:A=0:=j.2.2.2.1 rfl;subst E t;rw[if_neg (by decide),if_neg (by decide),if_neg (by decide),h,i];simp[aG]
  ·rw[if_neg e];have:(k==C)=false:=by simpa using e
   rw[this];simp;omega
abbrev An:=(n:Nat)×Tm n
def b8:An->Int
 | ⟨0,_⟩=>0
 | ⟨_+1,x⟩=>x.1.1
def ez(x y:An):Bool:=aB x.1 x.2 y.1 y.2
def FO(B:Nat)(w:ag)(x:An):Prop:=In B w x.1 x.2
def aI(x:An):Prop:=∀a∈aC x.1 x.2,cJ a=true
def iM{a β S:Type}(f:a->β->S->Option S):List a->List β->S->Option S
 | x::p,y::q,b=>(f x y b).bind (iM f p q)
 | _,_,b=>some b
def uS(b:List An)(i:Nat)(t:An):Option (List An):=
 match b[i]? with
 | some a=>if b8 a=6 then some (b.set i t)else if ez a t then some b else none
 | none=>none
def ij:(n:Nat)->Tm n->(m:Nat)->Tm m->List An->Option (List An)
 | n+1,p,m+1,t,b=>
  if p.1.1=6 then some b
  else if p.1.1=5 then uS b p.1.2.1.toNat ⟨m+1,t⟩
  else if p.1.1=4 then
   if t.1.1=4/\p.2.2.length=t.2.2.length then iM (λx y b=>ij n x m y b) p.2.2 t.2.2 b else none
  else if aB (n+1) p (m+1) t then some b else none
 | _,_,_,_,_=>none
def PU(x y:An)(b:List An):Option (List An):=ij x.1 x.2 y.1 y.2 b
def lj:List (An×An)->List An->Option (List An)
 | [],b=>some b
 | (x,y)::r,b=>(PU x y b).bind (lj r)
def ir(n m:Nat)(p:List (Tm n))(q:List (Tm m)):List (An×An):=List.zipWith (λx y=>(⟨n,x⟩,⟨m,y⟩)) p q
def uv(P:An->Prop):Prop:=∀(n:Nat)(x:Tm (n+1))(y:Tm n),P ⟨n+1,x⟩->y∈x.2.2->P ⟨n,y⟩
theorem xw{a β S:Type}(f:a->β->S->Option S)(Q:S->Prop):(p:List a)->(q:List β)->(∀x∈p,∀y∈q,∀b c,Q b->f x y b=some c->Q c)->∀b c,Q b->iM f p q b=some c->Q c
 | [],_,_,b,c,hb,h=>by simp[iM]at h;rw[<-h];exact hb
 | _::_,[],_,b,c,hb,h=>by simp[iM]at h;rw[<-h];exact hb
 | x::p,y::q,hf,b,c,hb,h=>by
  simp only[iM]at h;obtain⟨d,e,g⟩:=bC.1 h;exact xw f Q p q (λx' i k j=>hf x' (bR _ i) k (bR _ j)) d c (hf x (by simp) y (by simp) b d hb e) g
theorem Gs(P:An->Prop)(b c:List An)(i:Nat)(t:An)(f:P t)(d:b.length=4/\∀y∈b,P y)(a:uS b i t=some c):c.length=4/\∀y∈c,P y:=by
 unfold uS at a;split at a
 ·split at a
  ·obtain rfl:=aA a;refine⟨by simpa using d.1,λy g=>?_⟩;rcases sY g with e|rfl
   ·exact d.2 y e
   ·exact f
  ·split at a
   ·obtain rfl:=aA a;exact d
   ·cases a
 ·cases a
theorem lh(P:An->Prop)(d:uv P):(n:Nat)->(p:Tm n)->(m:Nat)->(t:Tm m)->P ⟨m,t⟩->∀b c,(b.length=4/\∀y∈b,P y)->ij n p m t b=some c->(c.length=4/\∀y∈c,P y)
 | 0,_,_,_,_,_,_,_,h=>by simp[ij]at h
 | n+1,_,0,_,_,_,_,_,h=>by simp[ij]at h
 | n+1,p,m+1,t,ht,b,c,a,h=>by
  simp only[ij]at h;split at h
  ·obtain rfl:=aA h;exact a
  split at h
  ·exact Gs P b c _ _ ht a h
  split at h
  ·split at h
   ·exact xw _ _ p.2.2 t.2.2 (λx g y f b c a e=>lh P d n x m y (d m t y ht f) b c a e) b c a h
   ·cases h
  ·split at h
   ·obtain rfl:=aA h;exact a
   ·cases h
theorem Gr{β S:Type}(f:d->β->S->Option S)(p:List d)(q:List β)(k:Nat)(x:d)(y:β)(h:p[k]?=some x)(i:q[k]?=some y)(b:S):iM f (p.drop k) (q.drop k) b=(f x y b).bind (iM f (p.drop (k+1)) (q.drop (k+1))):=by
 obtain⟨e,a⟩:=aX.1 h;obtain⟨g,c⟩:=aX.1 i;rw[eM e,eM g,a,c];rfl
theorem Kt(B:Nat)(w:ag):uv (FO B w):=by
 intro n h i d c;rcases d.2 with a|⟨b,o,j,k,a⟩
 ·have e:h.2.2=[]:=a;rw[e]at c;cases c
 ·obtain⟨g,f⟩:=dd c;exact(a g i f).2
theorem bf:uv aI:=λ_ _ _ b d a c=>b a (oZ d c)
theorem Hf{P Q:An->Prop}(c:uv P)(d:uv Q):uv λx=>P x/\Q x:=λn x y a b=>⟨c n x y a.1 b,d n x y a.2 b⟩
def tm(a:An):Nd:=gu a.1 a.2
def fZ(l:List An):List av:=cH (l.map tm)
theorem lf(l:List An):(fZ l).length=l.length*4:=by simp[fZ,oy]
theorem AA(l:List An):∀u∈fZ l,u.oneCell'=true:=tn _
def ns(base:Nat)(g c:Nat)(b:List An)(w:ag):Prop:=w.ownsRow base 31 4 (ae (some ⟨g,0,none⟩) b.length c) b.length (fZ b)
theorem ns.cells{base g c:Nat}{b:List An}{w:ag}(a:ns base g c b w)(i:Nat)(y:An)(d:b[i]?=some y):w.cell? ⟨g,i*4,none⟩=some (ab (tm y).1.1)/\w.cell? ⟨g,i*4+1,none⟩=some (ab (tm y).1.2.1)/\w.cell? ⟨g,i*4+2,none⟩=some (af (tm y).1.2.2)/\w.cell? ⟨g,i*4+3,none⟩=some (.slice (tm y).2.1 (tm y).2.2.1 (tm y).2.2.2):=
 DT (l:=b.map tm) a i (tm y) (by simp[d])
theorem ns.lt{base g c:Nat}{b:List An}{w:ag}(a:ns base g c b w):base<=g/\g<w.heap.size:=World.ownsRow.lt a g rfl
theorem ns.kept{base g c:Nat}{b:List An}{w w':ag}(d:ns base g c b w){row:Option Nat}(e:w.grownBy w' row)(f:row≠some g):ns base g c b w':=
 pH d e (aj λa=>f a.symm)
theorem cV{w':ag}(a:ak w w')(row:Option Nat):w.grownBy w' row:=⟨a.os,a.tape,a.output,a.size,λk b _=>a.block k b⟩
variable{b:List An}
theorem ns.below{w':ag}(a:ns base g c b w)(d:ak w w'):ns base g c b w':=a.kept (cV d none) (by simp)
theorem oq{w':ag}(a:w.grownBy w' (some g))(b:B<=g)(c:g<w.heap.size):Below B w w':=⟨a.os,a.tape,a.output,a.size,λk d=>a.block k (by omega) (by simp;omega)⟩
theorem lO{w1 w2:ag}(a:w.grownBy w1 row)(k:w1.grownBy w2 row):w.grownBy w2 row:=
 ⟨k.os.trans a.os,k.tape.trans a.tape,k.output.trans a.output,aD a.size k.size,λb c d=>(k.block b (aW c a.size) d).trans (a.block b c d)⟩
theorem ns.free(e:ns base g c b w)(j:Nat):w.frozen? ⟨g,j,none⟩=false:=by
 obtain⟨n,d⟩:=e;rcases d with⟨d,_⟩|⟨m,cap,i,h,q,f,o,r,s,p⟩
 ·simp at d
 ·injection h with a k l;injection a with a;injection a with a _;subst a;simp[World.frozen?,f]
def di(w:ag)(g o:Nat)(v0 v1 v2 v3:av):ag:=(((w.setCell ⟨g,o,none⟩ v0).setCell ⟨g,o+1,none⟩ v1).setCell ⟨g,o+2,none⟩ v2).setCell ⟨g,o+3,none⟩ v3
def jD(w:ag)(g o:Nat)(x:Nd):ag:=di w g o (ab x.1.1) (ab x.1.2.1) (af x.1.2.2) (ae x.2.1 x.2.2.1 x.2.2.2)
theorem jw{e size:Nat}{xs:List av}(h:w.ownsRow base e size (ae (some ⟨g,0,none⟩) L c) L xs)(j:Nat)(u:av):(w.setCell ⟨g,j,none⟩ u).ownsRow base e size (ae (some ⟨g,0,none⟩) L c) L (xs.set j u):=by
 obtain⟨i,b⟩:=h;refine⟨by simpa using i,?_⟩;rcases b with⟨b,_⟩|⟨s,cap,d,p,m,n,k,o,q,l⟩
 ·simp at b
 ·injection p with a r f;injection a with a;injection a with a _;subst a f;refine aj ⟨g,c,d.setIfInBounds j u,rfl,m,?_,k,o,by simpa using q,?_⟩
  ·simp[World.setCell,bO,n]
  ·rw[<-l];simp[List.take_set]
theorem tp:(l:List Nd)->(i:Nat)->(x:Nd)->i<l.length-> ((((cH l).set (i*4) (ab x.1.1)).set (i*4+1) (ab x.1.2.1)).set (i*4+2) (af x.1.2.2)).set (i*4+3) (ae x.2.1 x.2.2.1 x.2.2.2)=cH (l.set i x)
 | [],i,x,h=>by simp at h
 | y::l,0,x,_=>by simp[cH,vA]
 | y::l,i+1,x,h=>by
  have ih:=tp l i x (by simpa using h);have e:cH (y::l)=vA y++cH l:=rfl;have b:cH ((y::l).set (i+1) x)=vA y++cH (l.set i x):=rfl;have a:(vA y).length=4:=rfl;rw[e,b,<-ih];rw[iE _ _ (by rw[a];omega),iE _ _ (by rw[a];omega),iE _ _ (by rw[a];omega),iE _ _ (by rw[a];omega),a];rw[show (i+1)*4-4=i*4 by omega,show (i+1)*4+1-4=i*4+1 by omega,show (i+1)*4+2-4=i*4+2 by omega,show (i+1)*4+3-4=i*4+3 by omega]
theorem ns.put(d:ns base g c b w)(i:Nat)(t:An)(e:i<b.length):ns base g c (b.set i t) (jD w g (i*4) (tm t)):=by
 have a:=jw (jw (jw (jw d (i*4) (ab (tm t).1.1)) (i*4+1) (ab (tm t).1.2.1)) (i*4+2) (af (tm t).1.2.2)) (i*4+3) (.slice (tm t).2.1 (tm t).2.2.1 (tm t).2.2.2);unfold fZ at a;rw[tp (b.map tm) i (tm t) (by simpa using e)]at a;unfold ns fZ;rw[List.map_set,List.length_set];exact a
theorem bj{b:Nat}(c:b≠g)(v0 v1 v2 v3:av):(di w g o v0 v1 v2 v3).heap[b]?=w.heap[b]? :=by
 have d:g≠b:=λa=>c a.symm;simp[di,World.setCell,bO,d]
theorem bA(v0 v1 v2 v3:av):(di w g o v0 v1 v2 v3).heap.size=w.heap.size:=by simp[di,World.setCell]
theorem D5(v0 v1 v2 v3:av):w.grownBy (di w g o v0 v1 v2 v3) (some g):=
 ⟨rfl,rfl,rfl,dF (bA _ _ _ _).symm,λk _ b=>bj (λa=>b (by rw[a])) _ _ _ _⟩
theorem ES{w':ag}{v0 v1 v2 v3:av}{t:TypeId}(c:Below (w.alloc (.cells #[v0,v1,v2,v3] t)).heap.size (w.alloc (.cells #[v0,v1,v2,v3] t)) w'):(w'.cell? ⟨w.heap.size,0,none⟩=some v0/\w'.cell? ⟨w.heap.size,1,none⟩=some v1/\w'.cell? ⟨w.heap.size,2,none⟩=some v2/\w'.cell? ⟨w.heap.size,3,none⟩=some v3)/\ (w'.frozen? ⟨w.heap.size,0,none⟩=false/\w'.frozen? ⟨w.heap.size,1,none⟩=false/\w'.frozen? ⟨w.heap.size,2,none⟩=false/\w'.frozen? ⟨w.heap.size,3,none⟩=false):=by
 have a:=λo=>c.cell (p:=⟨w.heap.size,o,none⟩) (by simp);have b:=λo=>c.frozen (p:=⟨w.heap.size,o,none⟩) (by simp);exact⟨⟨(a 0).trans (by simp[go_sem]),(a 1).trans (by simp[go_sem]),(a 2).trans (by simp[go_sem]),(a 3).trans (by simp[go_sem])⟩,(b 0).trans (by simp[go_sem]),(b 1).trans (by simp[go_sem]),(b 2).trans (by simp[go_sem]),(b 3).trans (by simp[go_sem])⟩
theorem od{w1 w2:ag}{q:Nat}{c d e:av}(b:q<w1.heap.size)(j:ak w1 w2)(k:w1.cell? ⟨q,0,none⟩=some m/\w1.cell? ⟨q,1,none⟩=some c/\w1.cell? ⟨q,2,none⟩=some d/\w1.cell? ⟨q,3,none⟩=some e):w2.cell? ⟨q,0,none⟩=some m/\w2.cell? ⟨q,1,none⟩=some c/\w2.cell? ⟨q,2,none⟩=some d/\w2.cell? ⟨q,3,none⟩=some e:=by
 obtain⟨f,g,h,i⟩:=k;have a:=ax j;exact⟨(a _ _ b).trans f,(a _ _ b).trans g,(a _ _ b).trans h,(a _ _ b).trans i⟩
def eV(base g c:Nat)(o:Option (List An))(w:ag)(e:Ending)(w':ag):Prop:=
 e=.returned (.bool o.isSome)/\w.grownBy w' (some g)/\∀b,o=some b->ns base g c b w'
def CP(B:Nat)(w:ag)(b:List An):Prop:=b.length=4/\∀y∈b,FO B w y/\aI y
theorem FO.below{B:Nat}{w w':ag}(a:Below B w w'){x:An}(k:FO B w x):FO B w' x:=In.below a k
theorem CP.below{B:Nat}{w w':ag}(c:Below B w w'){b:List An}(k:CP B w b):CP B w' b:=⟨k.1,λy a=>⟨(k.2 y a).1.below c,(k.2 y a).2⟩⟩
theorem CP.fit{a:List An}(k:CP B w b){m:Nat}{p:Tm n}{t:Tm m}(f:In B w m t)(e:aI ⟨m,t⟩)(d:ij n p m t b=some a):CP B w a:=
 lh (λc=>FO B w c/\aI c) (Hf (Kt B w) bf) n p m t ⟨f,e⟩ b a k d
def NO(n:Nat):Prop:=∀(p:Tm n)(m:Nat)(t:Tm m)(b:List An)(base g c B:Nat)(w:ag),In B w n p->In B w m t->aI ⟨n,p⟩->aI ⟨m,t⟩->CP B w b->B<=base->ns base g c b w->
 am 185 #[ae (some ⟨g,0,none⟩) 4 c,dw n p,dw m t] w (eV base g c (ij n p m t b) w)
theorem jf{c β:Type}(f:c->β->Bool):(p:List c)->(q:List β)->(x:c)->(y:β)->aG f p q=true->f x y=true->aG f (p++ [x]) (q++ [y])=true
 | [],[],x,y,_,h=>by simp[aG,h]
 | [],_::_,_,_,h,_=>by simp[aG]at h
 | _::_,[],_,_,h,_=>by simp[aG]at h
 | a::p,b::q,x,y,h,k=>by
  simp only[aG,aK,eL]at h ⊢;exact⟨h.1,jf f p q x y h.2 k⟩
theorem cP{c β:Type}(f:c->β->Bool):(p:List c)->(q:List β)->aG f p q=true->p.length=q.length
 | [],[],_=>rfl
 | [],_::_,h=>by simp[aG]at h
 | _::_,[],h=>by simp[aG]at h
 | a::p,b::q,h=>by
  simp only[aG,aK]at h;simp[cP f p q h.2]
def zA:An:=⟨1,((0,0,.empty),(none,0),[])⟩
theorem GU(n:Nat):(madeCells #[ab 0,ab 0,af .empty,ae none 0 0] (n*4)).toList=fZ (List.replicate n zA):=by
 apply List.ext_getElem?;intro b;by_cases e:b<n*4
 ·obtain⟨k,a,f,rfl⟩:∃k a,a<4/\b=k*4+a:=⟨b / 4,b % 4,Nat.mod_lt _ (by decide),by omega⟩;have g:k<n:=by omega
  have c:(fZ (List.replicate n zA))[k*4+a]?=(vA (tm zA))[a]? :=iZ _ k (tm zA) (by simp[g]) a f;rw[c];have d:(madeCells #[ab 0,ab 0,af .empty,ae none 0 0] (n*4))[k*4+a]?=some ((#[ab 0,ab 0,af .empty,ae none 0 0]:Array av)[(k*4+a) % 4]!):=by
   simp[madeCells,e]
  rw[mT,d,show (k*4+a) % 4=a by omega];have:a=0\/a=1\/a=2\/a=3:=by omega
  rcases this with rfl|rfl|rfl|rfl<;>rfl
 ·rw[eN (by simp[size_madeCells];omega),eN (by rw[lf];simp;omega)]
def ur(n:Nat)(p:List (Tm n))(len g k:Nat)(l:List (Tm n))(wr:ag):Prop:=
 l.length=k/\ns g g len (l.map (λe=>(⟨n,e⟩:An))++List.replicate (len-k) zA) wr/\(∀a∈l,In wr.heap.size wr n a/\cr (λd=>g<d) n a)/\aG (λc b=>aB n c n b) l (p.take k)=true
theorem ur.step{p:List (Tm n)}{k:Nat}{l:List (Tm n)}{w1:ag}(j:ur n p len g k l wr)(w:k<len)(x:Tm n)(u:p[k]?=some x)(c:ak wr w1)(y:Tm n)(v:In w1.heap.size w1 n y)(h:cr (λq=>g<q) n y)(s:aB n y n x=true):ur n p len g (k+1) (l++ [y]) (jD w1 g (k*4) (gu n y)):=by
 obtain⟨e,m,b,o⟩:=j;have f:=(m.below c).put k ⟨n,y⟩ (by simp;omega);have i:(l.map (λx=>(⟨n,x⟩:An))++List.replicate (len-k) zA).set k ⟨n,y⟩=(l++ [y]).map (λx=>(⟨n,x⟩:An))++List.replicate (len-(k+1)) zA:=by
  rw[iE _ _ (by simp;omega)];have:len-k=(len-(k+1))+1:=by omega
  rw[this,List.replicate_succ];simp[e]
 rw[i]at f;refine⟨by simp[e],f,?_,?_⟩
 ·intro d a;have t:(jD w1 g (k*4) (gu n y)).heap.size=w1.heap.size:=bA _ _ _ _;rw[t];rcases dr.1 a with a|a
  ·exact⟨In.off (λq r=>bj (by omega) _ _ _ _) (b d a).2 (((b d a).1.below c).mono c.size),(b d a).2⟩
  ·simp only[dS]at a;subst a;exact⟨In.off (λq r=>bj (by omega) _ _ _ _) h v,h⟩
 ·rw[dz,u];exact jf _ _ _ _ _ o s
def gQ(n:Nat)(p:List (Tm n))(w w':ag)(a:aw)(c:Nat)(l:List (Tm n)):Prop:=
 ak w w'/\l.length=p.length/\l.length<=c/\c<=maxLen/\aG (λa b=>aB n a n b) l p=true/\
 (l=[]\/∃b o,a=some ⟨b,o,none⟩/\(w.heap.size<=b/\o=0/\(∀g,w'.frozen? ⟨b,g,none⟩=false)/\∀d∈l,cr (λe=>e≠b) n d)/\b<w'.heap.size/\∀(f:Nat)(d:Tm n),l[f]?=some d->dH w' b (o+f*4) n d/\In w'.heap.size w' n d/\cr (λe=>w.heap.size<=e) n d)
theorem ur.done{p:List (Tm n)}{k:Nat}{l:List (Tm n)}(f:ur n p len w.heap.size k l wr)(u:p.length=len)(j:k=len)(g:ak w wr)(m:len<=maxLen):gQ n p w wr (some ⟨w.heap.size,0,none⟩) len l:=by
 obtain⟨t,c,d,e⟩:=f;subst j;rw[bF (by omega)]at e;rw[hU,nb,eK]at c;refine⟨g,by omega,by omega,m,e,aj ⟨w.heap.size,0,rfl,⟨ao _,rfl,λr=>c.free r,λb a=>(d b a).2.mono λs o=>by omega⟩,c.lt.2,λq b a=>⟨?_,(d b (aN a)).1,(d b (aN a)).2.mono λs o=>by omega⟩⟩⟩;have h:=c.cells q ⟨n,b⟩ (by simp[a]);have i:=(d b (aN a)).1;cases n with
 | zero=>exact i.elim
 | succ n=>
  rw[de];exact h
def PG(n:Nat):Prop:=∀(x:Tm n)(B:Nat)(w:ag),In B w n x->B<=w.heap.size->aI ⟨n,x⟩->
 am 56 #[dw n x] w λe w'=>∃y:Tm n,e=.returned (dw n y)/\Hid (ak w w'/\In w'.heap.size w' n y/\cr (λq=>w.heap.size<=q) n y/\aB n y n x=true)
end Go.Proofs.YtmmahddlcldmiaaGreat
