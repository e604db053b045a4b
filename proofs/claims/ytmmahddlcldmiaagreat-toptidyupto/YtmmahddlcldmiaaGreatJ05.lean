/- Proved here: plain facts and contracts. No condition but what each names. -/
import Derived.Test.YtmmahddlcldmiaaGreatJ04
import Derived.Maps.RangeWalk
import Derived.WideKeyPair
import Derived.WideKeyEntry
import Derived.Deep.RegionHeld3
import Derived.Laws.MakeOwn
namespace Go.Proofs.YtmmahddlcldmiaaGreat
open Go.RowKit Go.Proofs.Tryz
open Go.RowKit Go.Maps
set_option maxRecDepth 100000
set_option maxHeartbeats 2000000
def ch(P:Nat->Prop):(n:Nat)->Tm n->Prop
 | 0,_=>False
 | n+1,x=>x.2.2=[]\/∃b o,x.2.1.1=some ⟨b,o,none⟩/\P b/\∀(i:Nat)(y:Tm n),x.2.2[i]?=some y->ch P n y
theorem ch.mono{P Q:Nat->Prop}(a:∀b,P b->Q b):{n:Nat}->{x:Tm n}->ch P n x->ch Q n x
 | 0,_,k=>k
 | _+1,_,k=>by
  rcases k with k|⟨b,o,e,c,k⟩
  ·exact ah k
  ·exact ai ⟨b,o,e,a b c,λi y d=>(k i y d).mono a⟩
theorem bw{w w':World}{b:Nat}(a:w'.heap[b]?=w.heap[b]?)(o:Nat):w'.cell? ⟨b,o,none⟩=w.cell? ⟨b,o,none⟩:=by
 simp[World.cell?,a]
theorem dC.block{w w':World}{b o:Nat}(a:w'.heap[b]?=w.heap[b]?):{n:Nat}->{x:Tm n}->dC w b o n x->dC w' b o n x
 | 0,_,k=>k
 | _+1,_,k=>by
  obtain⟨c,d,e,f⟩:=k;exact⟨(bw a _).trans c,(bw a _).trans d,(bw a _).trans e,(bw a _).trans f⟩
theorem In.off{P:Nat->Prop}{w w':World}(f:∀b,P b->w'.heap[b]?=w.heap[b]?){B:Nat}:{n:Nat}->{x:Tm n}->ch P n x->In B w n x->In B w' n x
 | 0,_,_,k=>k
 | _+1,_,p,k=>by
  obtain⟨m,a⟩:=k;refine⟨m,?_⟩;rcases a with a|⟨b,o,e,j,a⟩
  ·exact ah a
  ·rcases p with p|⟨q,r,c,l,p⟩
   ·exact ah p
   ·rw[e]at c;injection c with c;injection c with g h;subst g h;exact ai ⟨b,o,e,j,λi y d=>⟨(a i y d).1.block (f b l),(a i y d).2.off f (p i y d)⟩⟩
theorem In.offB{P:Nat->Prop}{B:Nat}{w:World}:{n:Nat}->{x:Tm n}->ch P n x->In B w n x->ch (λb=>P b/\b<B) n x
 | 0,_,p,_=>p
 | _+1,_,p,k=>by
  obtain⟨_,a⟩:=k;rcases p with p|⟨b,o,e,h,p⟩
  ·exact ah p
  ·rcases a with a|⟨l,m,c,j,a⟩
   ·exact ah a
   ·rw[e]at c;injection c with c;injection c with f g;subst f g;exact ai ⟨b,o,e,⟨h,j⟩,λi y d=>In.offB (p i y d) (a i y d).2⟩
def gj:(n:Nat)->Tm n->Nd
 | 0,_=>((0,0,⟨#[]⟩),(none,0,0))
 | n+1,x=>bD n x
theorem Mj{w:World}{base g c L:Nat}{n:Nat}{l:List (Tm (n+1))}(a:w.ownsRow base 31 4 (ae (some ⟨g,0,none⟩) L c) L (cC (l.map (gj (n+1)))))(k:Nat)(x:Tm (n+1))(d:l[k]?=some x):dC w g (0+k*4) (n+1) x:=by
 have b:=DO a k (gj (n+1) x) (by simp[d]);rw[cX];exact b
def qS(base:Nat)(n:Nat)(l:List (Tm n))(v:Value)(w:World):Prop:=
 w.ownsRow base 31 4 v l.length (cC (l.map (gj n)))/\∀a∈l,In w.heap.size w n a/\ch (λb=>base<=b/\v.ownBlock≠some b) n a
theorem qS.tup{base n:Nat}{l:List (Tm (n+1))}{v:Value}{w:World}(m:qS base (n+1) l v w):∃a c,v=ae a l.length c/\ch (λb=>base<=b) (n+2) ((4,0,⟨#[]⟩),(a,c),l)/\In w.heap.size w (n+2) ((4,0,⟨#[]⟩),(a,c),l):=by
 obtain⟨i,j⟩:=m;have d:dx 4/\dx 0/\(⟨#[]⟩:ByteArray).size<=maxLen:=⟨⟨by omega,by omega⟩,⟨by omega,by omega⟩,aH _⟩;have e:=i;obtain⟨y,e⟩:=e;rcases e with⟨e,o⟩|⟨f,cap,x,rfl,r,s,q,u,A,z⟩
 ·have:l=[]:=bE o;subst this;refine⟨none,0,by rw[e];rfl,ah rfl,⟨d.1,d.2.1,d.2.2,aH _,aH _⟩,ah rfl⟩
 ·have t:f<w.heap.size:=(aF.1 s).1;refine⟨some ⟨f,0,none⟩,cap,rfl,ai ⟨f,0,rfl,r,λk h g=>((j h (aJ g)).2).mono λb p=>p.1⟩,⟨d.1,d.2.1,d.2.2,q,u⟩,ai ⟨f,0,rfl,t,λk h g=>⟨Mj i k h g,(j h (aJ g)).1⟩⟩⟩
structure bt (S:Nat->Prop) (w w':World):Prop where
 os:w'.os=w.os
 tape:w'.tape=w.tape
 output:w'.output=w.output
 size:w.heap.size<=w'.heap.size
 block:∀b,b<w.heap.size->¬S b->w'.heap[b]?=w.heap[b]?
theorem bt.refl(S:Nat->Prop)(w:World):bt S w w:=⟨rfl,rfl,rfl,am _,λ_ _ _=>rfl⟩
theorem bt.trans{S T:Nat->Prop}{w w1 w2:World}(a:bt S w w1)(k:bt T w1 w2)(e:∀b,b<w.heap.size->T b->S b):bt S w w2:=
 ⟨k.os.trans a.os,k.tape.trans a.tape,k.output.trans a.output,az a.size k.size,λb c d=>(k.block b (aR c a.size) (λf=>d (e b c f))).trans (a.block b c d)⟩
theorem bt.mono{S T:Nat->Prop}{w w1:World}(a:bt S w w1)(d:∀b,b<w.heap.size->S b->T b):bt T w w1:=⟨a.os,a.tape,a.output,a.size,λb c e=>a.block b c λk=>e (d b c k)⟩
theorem aK{w w':World}(a:Below w.heap.size w w')(S:Nat->Prop):bt S w w':=⟨a.os,a.tape,a.output,a.size,λb c _=>a.block b c⟩
theorem eu{w w':World}{row:Option Nat}(a:w.grownBy w' row):bt (λb=>row=some b) w w':=⟨a.os,a.tape,a.output,a.size,λb c d=>a.block b c λe=>d e.symm⟩
theorem bC(w:World)(q o:Nat)(v:Value):bt (λb=>b=q) w (w.setCell ⟨q,o,none⟩ v):=
 ⟨rfl,rfl,rfl,by simp[World.setCell],λb _ c=>by
  have:q≠b:=λa=>c a.symm
  simp[World.setCell,bJ,this]⟩
theorem bt.below{S:Nat->Prop}{w w':World}{B:Nat}(a:bt S w w')(e:B<=w.heap.size)(c:∀b,b<B->¬S b):Below B w w':=⟨a.os,a.tape,a.output,a.size,λb d=>a.block b (by omega) (c b d)⟩
theorem bt.cell{S:Nat->Prop}{w w':World}(a:bt S w w'){b:Nat}(o:Nat)(d:b<w.heap.size)(c:¬S b):w'.cell? ⟨b,o,none⟩=w.cell? ⟨b,o,none⟩:=by
 simp only[World.cell?,a.block b d c]
theorem bk{base:Nat}{e:TypeId}{sz:Nat}{v:Value}{n:Nat}{xs:List Value}{w w':World}{S:Nat->Prop}(c:w.ownsRow base e sz v n xs)(k:bt S w w')(h:∀b,v.ownBlock=some b->¬S b):w'.ownsRow base e sz v n xs:=by
 refine⟨c.1,?_⟩;rcases c.2 with⟨e,g⟩|⟨a,cap,f,e,i,d,j⟩
 ·exact ah ⟨e,g⟩
 ·exact ai ⟨a,cap,f,e,i,(k.block a (aF.1 d).1 (h a (by rw[e];rfl))).trans d,j⟩
theorem dC.kee{S:Nat->Prop}{w w':World}(a:bt S w w'){b o:Nat}(d:b<w.heap.size)(c:¬S b):{n:Nat}->{x:Tm n}->dC w b o n x->dC w' b o n x
 | 0,_,k=>k
 | _+1,_,k=>by
  obtain⟨e,f,g,h⟩:=k;exact⟨(a.cell _ d c).trans e,(a.cell _ d c).trans f,(a.cell _ d c).trans g,(a.cell _ d c).trans h⟩
theorem In.kee{S:Nat->Prop}{w w':World}(d:bt S w w'):{n:Nat}->{x:Tm n}->In w.heap.size w n x->ch (λb=>¬S b) n x->In w'.heap.size w' n x
 | 0,_,k,_=>k
 | _+1,x,k,o=>by
  obtain⟨p,a⟩:=k;refine⟨p,?_⟩;rcases a with a|⟨b,f,e,h,a⟩
  ·exact ah a
  ·rcases o with o|⟨q,r,c,m,o⟩
   ·exact ah o
   ·rw[e]at c;injection c with c;injection c with j l;subst j l;exact ai ⟨b,f,e,aR h d.size,λi y g=>⟨(a i y g).1.kee d h m,(a i y g).2.kee d (o i y g)⟩⟩
/-! ### the keys -/
theorem oX:WideMaps.ArrKey Tryz.prog 44 3 2:=⟨underlying44,by kernel_rfl,by kernel_rfl,by kernel_rfl⟩
theorem dP:Keyed Tryz.prog 44:=Keyed.of_law oX.law
theorem we:∃m,Tryz.prog.types.size=m+1:=by
 have a:(Tryz.prog.types.size==0)=false:=by kernel_rfl
 have b:Tryz.prog.types.size≠0:=iC.1 a;exact⟨Tryz.prog.types.size-1,by omega⟩
def pk(k:Int×Int):Value:=.agg #[.int .i64 k.1,.int .i64 k.2]
def kl(k:Int×Int):Lit:=.string (keyBytes [.int .i64 k.1,.int .i64 k.2])
def I2(k:Int×Int):Prop:=dx k.1/\dx k.2
theorem Nv{a:Int}(b:dx a):(Lit.int .i64 a).wf=true:=iA (by unfold dx at b;omega)
theorem Pc{a:Int}(b:(Lit.int .i64 a).wf=true):dx a:=by
 have: -9223372036854775808<=a/\a<=9223372036854775807:=by simpa [Lit.wf,IntKind.min,IntKind.max,IntKind.signed,IntKind.bits]using b
 exact this
theorem fj{k:Int×Int}(a:I2 k):keyOf Tryz.prog 44 (pk k)=some (kl k):=WideMaps.keyOf_pair oX underlying3 we (Nv a.1) (Nv a.2)
theorem lW{k b:Int×Int}(c:I2 k)(d:I2 b)(e:kl k=kl b):k=b:=by
 have a:=dP.inj (fj c) (e▸fj d);simp only[pk,Value.agg.injEq,Array.mk.injEq,kI,Value.int.injEq,true_and,and_true]at a;exact fw a.1 a.2
theorem JP{v:Value}{x:Lit}(a:keyOf Tryz.prog 44 v=some x):∃k,I2 k/\v=pk k/\x=kl k:=by
 have r:=a;unfold keyOf at a;simp only[underlying44]at a;split at a
 ·rename_i n;simp only[aG]at n;have f:=n.2;unfold Value.formed at f;cases v<;>simp[underlying44]at f;rename_i q;rw[oX.size]at f;obtain⟨l⟩:=q
  match l,f with
  | [c0,c1],_=>
   simp only[co]at a;obtain⟨w,d,_⟩:=a;obtain⟨u,s⟩:=we;rw[s]at d;unfold Program.keyLits at d;simp only[underlying44,Value.cells]at d;rw[if_pos (by rw[oX.size];rfl),show List.range 2=[0,1]from rfl,List.mapM_cons,List.mapM_cons,List.mapM_nil]at d;simp only[co,bind,bu,pure,oX.one]at d;obtain⟨_,⟨y0,h,_,⟨y1,i,_⟩,_⟩,_⟩:=d;simp only[Nat.zero_mul,List.drop_zero,List.take_succ_cons,mW,Nat.one_mul,List.drop_succ_cons]at h i;have o:∀c p,Program.keyLits Tryz.prog (u+1) 3 [c]=some p->∃e,c=.int .i64 e/\dx e:=by
    intro c p g;unfold Program.keyLits at g;cases c<;>simp[underlying3]at g;obtain⟨⟨rfl,t⟩,_⟩:=g;exact⟨_,rfl,Pc t⟩
   obtain⟨e,rfl,j⟩:=o _ _ h;obtain⟨b,rfl,m⟩:=o _ _ i;refine⟨(e,b),⟨j,m⟩,rfl,?_⟩;have:=fj (k:=(e,b)) ⟨j,m⟩;exact aw (r.symm.trans this)
 ·cases a
/-! ### the map -/
def mF(v:Value):Option (DataW Value×List MemPlace):=some (.held v,[])
def iI{a:Type}(f:Int×Int->a)(k:Int×Int)(x:a):Int×Int->a:=λj=>if j=k then x else f j
theorem cO{a:Type}(f:Int×Int->a)(k:Int×Int)(x:a):iI f k x k=x:=if_pos rfl
theorem bS{a:Type}(f:Int×Int->a){k j:Int×Int}(x:a)(b:j≠k):iI f k x j=f j:=if_neg b
def mC:Value:=.slice none 0 0
def dp(N:Nat)(l:List (Tm N)):List Value:=cC (l.map (gj N))
theorem pT(N:Nat)(l:List (Tm N)):(dp N l).length=l.length*4:=by simp[dp,oo]
theorem pS(N:Nat)(l r:List (Tm N)):dp N (l++r)=dp N l++dp N r:=by simp[dp,vw]
def nV(base N:Nat)(v:Value)(l:List (Tm N))(w:World):Prop:=w.ownsRow base 31 4 v l.length (dp N l)
structure GM (base mb n N:Nat) (f:Int×Int->List (Tm N)) (sl:Int×Int->Value) (w:World):Prop where
 lo:base<=mb
 map:∃D,w.ownsMap Tryz.prog 44 mF mb n D/\(∀k,I2 k->D.atKey (kl k) (.held mC)=.held (sl k))/\∀x,has D x=true ↔∃k,I2 k/\x=kl k/\f k≠[]
 row:∀k,I2 k->nV base N (sl k) (f k) w
 apart:∀k j,I2 k->I2 j->k≠j->∀b,(sl k).ownBlock=some b->(sl j).ownBlock≠some b
def Ns(a:Nat)(sl:Int×Int->Value)(b:Nat):Prop:=b=a\/∃k,I2 k/\(sl k).ownBlock=some b
theorem ew{w:World}{base:Nat}{e:TypeId}{sz:Nat}{v:Value}{n:Nat}{xs:List Value}(d:w.ownsRow base e sz v n xs)(b:Nat)(c:v.ownBlock=some b):∃a,w.heap[b]?=some (.cells a e (0,0)):=by
 rcases d.2 with⟨rfl,_⟩|⟨g,cap,a,rfl,_,f,_⟩
 ·simp[Value.ownBlock]at c
 ·simp[Value.ownBlock]at c;subst c;exact⟨a,f⟩
variable {base mb n N:Nat} {f:Int×Int->List (Tm N)} {sl:Int×Int->Value} {w:World}
theorem GM.lt(a:GM base mb n N f sl w)(b:Nat)(c:Ns mb sl b):base<=b/\b<w.heap.size:=by
 rcases c with rfl|⟨k,e,c⟩
 ·obtain⟨g,d,_⟩:=a.map;exact⟨a.lo,d.lt⟩
 ·exact(a.row k e).lt b c
theorem GM.ne(a:GM base mb n N f sl w){k:Int×Int}(g:I2 k):(sl k).ownBlock≠some mb:=by
 intro d;obtain⟨c,b⟩:=ew (a.row k g) mb d;obtain⟨h,⟨es,i,e,_⟩,_⟩:=a.map;rw[e]at b;cases b
theorem GM.kee{S:Nat->Prop}{w':World}(a:GM base mb n N f sl w)(k:bt S w w')(e:∀b,Ns mb sl b->¬S b):GM base mb n N f sl w':=by
 refine⟨a.lo,?_,λh g=>bk (a.row h g) k λb c=>e b (ai ⟨h,g,c⟩),a.apart⟩;obtain⟨i,d,l⟩:=a.map;refine⟨i,?_,l⟩;have m:=d.lt;obtain⟨es,j,c,o⟩:=d;exact⟨es,j,(k.block mb m (e mb (ah rfl))).trans c,o⟩
theorem GM.mono(b:GM base mb n N f sl w){m:Nat}(i:n<=m):GM base mb m N f sl w:=by
 obtain⟨c,⟨a,d,e⟩,g,h⟩:=b;exact⟨c,⟨a,d.mono i,e⟩,g,h⟩
theorem GM.new(w:World)(N:Nat):GM w.heap.size w.heap.size 0 N (λ_=> []) (λ_=>mC) (w.alloc (.map #[] 0)):=
 ⟨am _,⟨.map [],pB w _ _ _,λk _=>by simp[DataW.atKey],λe=>⟨λa=>by simp[has]at a,λ⟨k,_,_,a⟩=>absurd rfl a⟩⟩,
  λk _=>⟨by simp[dp,cC],ah ⟨rfl,rfl⟩⟩,λk d _ _ _ b c=>by simp[mC,Value.ownBlock]at c⟩
theorem nV.rebase{a:Nat}{v:Value}{l:List (Tm N)}(b:nV base N v l w)(c:a<=base):nV a N v l w:=rJ b c
theorem GM.rebase{b:Nat}(a:GM base mb n N f sl w)(c:b<=base):GM b mb n N f sl w:=
 ⟨az c a.lo,a.map,λk d=>(a.row k d).rebase c,a.apart⟩
theorem Ku{v:Value}{d:DataW Value}{ps:List MemPlace}(a:mF v=some (d,ps)):d=.held v:=by
 unfold mF at a;injection a with a;injection a with b c;exact b.symm
theorem rZ(w:World):(zeroValue 29).run Tryz.prog w=.ok (.slice none 0 0) w:=by kernel_rfl
theorem GM.look(d:GM base mb n N f sl w){k:Int×Int}(b:I2 k):(Instr.lookup 51 (.map (some mb)) (pk k) false).run Tryz.prog w=.ok (sl k) w:=by
 obtain⟨i,e,g,_⟩:=d.map;obtain⟨j,ps,h,c⟩:=e.lookup dP underlying51 (rZ w) (zd:=.held mC) (zp:=[]) rfl (fj b);rw[g k b]at c;have a:=Ku c;injection a with a;rw[h,a]
theorem GK(w:World){k:Int×Int}(b:I2 k):(Instr.lookup 51 (.map none) (pk k) false).run Tryz.prog w=.ok (.slice none 0 0) w:=by
 have a:=look_nil (P:=Tryz.prog) (w:=w) false dP underlying51 (rZ w) (fj b);simpa using a
theorem FQ{D:DataW Value}(f:IsMap D){k j:Int×Int}(e:I2 k)(b:I2 j)(v:Value)(c:DataW Value):(D.put (kl k) (.held v)).atKey (kl j) c=if j=k then .held v else D.atKey (kl j) c:=by
 by_cases a:j=k
 ·subst a;rw[if_pos rfl,atKey_put_same f (dP.key (fj b))]
 ·rw[if_neg a,atKey_put_other λd=>a (lW b e d)]
theorem GM.put_of(h:GM base mb n N f sl w){k:Int×Int}(i:I2 k){w1 w2:World}(E:bt (λb=>b=mb\/(sl k).ownBlock=some b) w w1){v:Value}{l:List (Tm N)}(H:l≠[])(J:nV base N v l w1)(y:∀b,v.ownBlock=some b->(sl k).ownBlock=some b\/w.heap.size<=b)(x:bt (λb=>b=mb) w1 w2)(K:∀D,w.ownsMap Tryz.prog 44 mF mb n D->w2.ownsMap Tryz.prog 44 mF mb (n+1) (D.put (kl k) (.held v))):GM base mb (n+1) N (iI f k l) (iI sl k v) w2:=by
 obtain⟨D,j,C,t⟩:=h.map;have M:=j.lt;have I:∀b,v.ownBlock=some b->b≠mb:=λb e a=>by
  subst a;rcases y b e with a|a
  ·exact h.ne i a
  ·omega
 have z:∀c,I2 c->c≠k->∀b,(sl c).ownBlock=some b->v.ownBlock≠some b:=λc d G b e L=>by
  rcases y b L with a|a
  ·exact h.apart c k d i G b e a
  ·have:=((h.row c d).lt b e).2;omega
 refine⟨h.lo,⟨_,K D j,λc d=>?_,λB=>?_⟩,λc d=>?_,λp c u d o b=>?_⟩
 ·rw[FQ j.isMap i d];unfold iI;split
  ·rfl
  ·exact C c d
 ·constructor
  ·intro A;by_cases a:B=kl k
   ·exact⟨k,i,a,by rw[cO];exact H⟩
   ·rw[has_put_other a]at A;obtain⟨c,d,s,m⟩:=(t B).1 A;refine⟨c,d,s,?_⟩;rw[bS _ _ λg=>a (by rw[s,g])];exact m
  ·rintro ⟨c,d,rfl,m⟩;by_cases a:c=k
   ·rw[a,has_put_same j.isMap (dP.key (fj i))]
   ·rw[has_put_other λg=>a (lW d i g)];rw[bS _ _ a]at m;exact(t _).2 ⟨c,d,rfl,m⟩
 ·by_cases a:c=k
  ·subst a;rw[cO,cO];exact bk J x λb e a=>I b e a
  ·rw[bS _ _ a,bS _ _ a];refine bk (bk (h.row c d) E λb e g=>?_) x λb e g=>h.ne d (by rw[e,g]);rcases g with g|g
   ·exact h.ne d (by rw[e,g])
   ·exact h.apart c k d i a b e g
 ·by_cases q:p=k
  ·subst q;rw[cO,bS _ _ λa=>o a.symm];exact λe F=>z c d (λa=>o a.symm) b F e
  ·rw[bS _ _ q];by_cases r:c=k
   ·subst r;rw[cO];exact λe=>z p u o b e
   ·rw[bS _ _ r];exact h.apart p c u d o b
theorem jc{w2:World}(a:w.mapTurned w2 mb):bt (λb=>b=mb) w w2/\w2.heap.size=w.heap.size:=by
 refine⟨(eu a.grown).mono λb _ c=>(aw c).symm,?_⟩;obtain⟨_,_,_,_,_,rfl⟩:=a;simp[ChangeMaps.setBlock]
theorem GM.store(g:GM base mb n N f sl w){k:Int×Int}(h:I2 k){w1:World}(i:bt (λb=>(sl k).ownBlock=some b) w w1){v:Value}{l:List (Tm N)}(x:l≠[])(A:nV base N v l w1)(y:∀b,v.ownBlock=some b->(sl k).ownBlock=some b\/w.heap.size<=b)(F:n<1000000):∃w2,(Instr.mapUpdate 51 (.map (some mb)) (pk k) v).run Tryz.prog w1=.ok () w2/\GM base mb (n+1) N (iI f k l) (iI sl k v) w2/\bt (λb=>b=mb) w1 w2/\w2.heap.size=w1.heap.size:=by
 have p:∀a,w.ownsMap Tryz.prog 44 mF mb n a->∃w2,(Instr.mapUpdate 51 (.map (some mb)) (pk k) v).run Tryz.prog w1=.ok () w2/\w2.ownsMap Tryz.prog 44 mF mb (n+1) (a.put (kl k) (.held v))/\w1.mapTurned w2 mb:=by
  intro a c;have z:=c.lt;have t:w1.ownsMap Tryz.prog 44 mF mb n a:=by
   obtain⟨es,r,u,C⟩:=c;exact⟨es,r,(i.block mb z (g.ne h)).trans u,C⟩
  exact t.store (d:=.held v) (ps:=[]) dP underlying51 (by unfold maxLen;omega) (fj h) rfl
 obtain⟨a,c,_⟩:=g.map;obtain⟨w2,m,_,E⟩:=p a c;obtain⟨j,D⟩:=jc E;refine⟨w2,m,g.put_of h (i.mono λb _ e=>ai e) x A y j (λq s=>?_),j,D⟩;obtain⟨G,o,B,_⟩:=p q s;rw[m]at o;injection o with _ e;rw[e];exact B
theorem GM.entry(s:GM base mb n N f sl w){k:Int×Int}(g:I2 k)(ak:n<1000000):∃(q:Nat)(w1:World),(Instr.mapEntry 51 (.map (some mb)) (pk k)).run Tryz.prog w=.ok (.tuple #[sl k,goInt q]) w1/\bt (λb=>b=mb) w w1/\w1.heap.size=w.heap.size/\ ∀(w2:World)(v:Value)(l:List (Tm N)),w2.heap[mb]?=w1.heap[mb]? ->bt (λb=>b=mb\/(sl k).ownBlock=some b) w w2->l≠[]->nV base N v l w2->(∀b,v.ownBlock=some b->(sl k).ownBlock=some b\/w.heap.size<=b)-> ∃i,(Instr.entryStore 51 (.map (some mb)) (goInt q) v).run Tryz.prog w2=.ok () i/\GM base mb (n+1) N (iI f k l) (iI sl k v) i/\bt (λb=>b=mb) w2 i/\i.heap.size=w2.heap.size:=by
 obtain⟨I,t,aj,_⟩:=s.map;obtain⟨es,r,c,j,Z,P⟩:=t;have t:w.ownsMap Tryz.prog 44 mF mb n I:=⟨es,r,c,j,Z,P⟩;obtain⟨ah,q,o,m,X,H,aa⟩:=WideElems.entry_then_store (e:=29) oX.law underlying51 rZ c j (fj g);have K:ah=sl k:=by
  have x:=s.look g;obtain⟨am,ps,Y,al⟩:=t.lookup dP underlying51 (rZ w) (zd:=.held mC) (zp:=[]) rfl (fj g);rw[x]at Y;rcases Maps.fit_look false dP underlying51 (rZ w) c j (fj g)with⟨a,z,_⟩|⟨L,an,E,p,a,_⟩
  ·rw[x]at a;injection a with a _;rcases H with⟨B,y,h,_⟩|⟨_,rfl⟩
   ·exact absurd h (z B y)
   ·exact a.symm
  ·rw[x]at a;injection a with a _;rcases H with⟨B,y,h,rfl⟩|⟨z,_⟩
   ·have:=entry_eq_of_key ((MapKept.stamped_iff es r).1 j.stamped).2.2 E y (p.trans h.symm);simp at a;rw[a,this]
   ·exact absurd p (z L E)
 subst K;have ab:w.mapTurned (ChangeMaps.setBlock w mb (.map o m)) mb:=⟨es,r,o,m,c,rfl⟩;obtain⟨p,af⟩:=jc ab;refine⟨q,_,X,p,af,λw2 v l ae Q R T S=>?_⟩;have u:w2.heap[mb]?=some (.map o m):=ae.trans (sQ c _);obtain⟨C,A,U,V⟩:=aa w2 v u;have ad:w2.mapTurned (ChangeMaps.setBlock w2 mb (.map C A)) mb:=⟨o,m,C,A,u,rfl⟩;obtain⟨h,ag⟩:=jc ad;refine⟨_,U,s.put_of g Q R T S h (λai O=>?_),h,ag⟩;obtain⟨i,G,F,_⟩:=O.store (d:=.held v) (ps:=[]) dP underlying51 (by unfold maxLen;omega) (fj g) rfl;rw[V]at G;injection G with _ e;rw[<-e]at F;obtain⟨M,J,D,W⟩:=F;rw[sQ c]at D;exact⟨M,J,(sQ u _).trans D,W⟩
theorem GM.drop(h:GM base mb n N f sl w){k:Int×Int}(l:I2 k)(ty:TypeId):∃w2,(Builtin.delete_ #[51,44] ty #[.map (some mb),pk k]).run Tryz.prog w=.ok (.tuple #[]) w2/\GM base mb n N (iI f k []) (iI sl k mC) w2/\bt (λb=>b=mb) w w2/\w2.heap.size=w.heap.size:=by
 obtain⟨D,u,v,q⟩:=h.map;obtain⟨w2,A,z,C⟩:=u.drop dP underlying51 (fj l) ty;obtain⟨r,B⟩:=jc C;refine⟨w2,A,⟨h.lo,⟨_,z,λc d=>?_,λt=>?_⟩,λc d=>?_,λs c x d y b=>?_⟩,r,B⟩
 ·by_cases a:c=k
  ·subst a;rw[cO,atKey_del_same]
  ·rw[bS _ _ a,atKey_del_other λe=>a (lW d l e)];exact v c d
 ·constructor
  ·intro j;by_cases a:t=kl k
   ·rw[a,has_del_same]at j;cases j
   ·rw[has_del_other a]at j;obtain⟨c,d,p,g⟩:=(q t).1 j;refine⟨c,d,p,?_⟩;rw[bS _ _ λe=>a (by rw[p,e])];exact g
  ·rintro ⟨c,d,rfl,g⟩;by_cases a:c=k
   ·rw[a,cO]at g;exact absurd rfl g
   ·rw[has_del_other λe=>a (lW d l e)];rw[bS _ _ a]at g;exact(q _).2 ⟨c,d,rfl,g⟩
 ·by_cases a:c=k
  ·subst a;rw[cO,cO];exact⟨by simp[dp,cC],ah ⟨rfl,rfl⟩⟩
  ·rw[bS _ _ a,bS _ _ a];exact bk (h.row c d) r λb i e=>h.ne d (by rw[i,e])
 ·by_cases m:s=k
  ·subst m;rw[cO];intro i;simp[mC,Value.ownBlock]at i
  ·rw[bS _ _ m];by_cases o:c=k
   ·subst o;rw[cO];intro _ i;simp[mC,Value.ownBlock]at i
   ·rw[bS _ _ o];exact h.apart s c x d y b
theorem wN{P:Program}(w:World)(t ty e:TypeId)(i:TypeInfo)(x:P.underlying t=some (.slice e))(q:P.info? e=some i)(g d h:Nat)(f:Array Value)(p:w.heap[g]?=some (.cells f e (0,0)))(a:Addr)(m c:Nat)(b:List Value)(r:b.length=m*i.size)(s:∀j u,b[j]?=some u->w.cell? (a.add j)=some u)(l:∀u∈b,u.oneCell'=true)(v:d+m<=h)(o:d*i.size+b.length<=f.size):(Builtin.append_ #[t,t] ty #[ae (some ⟨g,0,none⟩) d h,ae (some a) m c]).run P w= .ok (ae (some ⟨g,0,none⟩) (d+m) h) (w.setRow g (f.toList.take (d*i.size)++b++f.toList.drop (d*i.size+b.length)).toArray):=by
 have n:=run_firstCells_some (P:=P) w i.size m a m c b r s;have k:=pD P g (d*i.size) e b 0 f w p (by simpa using o) l;simp only[gC]at k;simp[Builtin.append_,cq x,sizeOf,typeInfo,q,Builtin.lenOf,v,n,dZ,k]
theorem Gy:(Tryz.prog.info? 31).map (λi=>(i.zero,i.size,i.bytes))=some (some (.agg #[ab 0,ab 0,af ⟨#[]⟩,ae none 0 0]),4,56):=by kernel_rfl
def pY:List Value:=[ab 0,ab 0,af ⟨#[]⟩,ae none 0 0]
theorem wP(w:World)(ty:TypeId)(g o c:Nat)(a:Array Value)(e:w.heap[g]?=some (.cells a 31 (0,0)))(d:o+4<=a.size):(Builtin.clear_ #[29] ty #[ae (some ⟨g,o,none⟩) 1 c]).run Tryz.prog w=.ok (.tuple #[]) (w.setRow g (a.toList.take o++pY++a.toList.drop (o+4)).toArray):=by
 have b:=pD Tryz.prog g o 31 pY 0 a w e (by simpa [pY]using d) (by simp[pY,Value.oneCell']);have h:(Builtin.zeroCells (Value.agg #[ab 0,ab 0,af ⟨#[]⟩,ae none 0 0]).cells 1).toList=pY:=by
  simp[Builtin.zeroCells,Value.cells,pY];rfl
 simp only[gC]at b;have f:pY.length=4:=rfl;rw[f]at b;simp[Builtin.clear_,cq underlying29,h,b]
theorem KL(w:World)(g L c:Nat)(b:L<=c)(d:1<=L):(Instr.slice 29 (ae (some ⟨g,0,none⟩) L c) (some (ab 0)) (some (ab 1)) (some (ab L))).run Tryz.prog w=.ok (ae (some ⟨g,0,none⟩) 1 L) w:=by
 have a:(1:Int)<=(L:Int):=by omega
 simp[Instr.slice,cq underlying29,Instr.sliceBounds,Instr.sliceBound,asIntOf,a,b,go_sem]
theorem Ec(w:World)(g L c:Nat):(Instr.slice 29 (ae (some ⟨g,0,none⟩) L c) none (some (ab 0)) none).run Tryz.prog w=.ok (ae (some ⟨g,0,none⟩) 0 c) w:=by
 simp[Instr.slice,cq underlying29,Instr.sliceBounds,Instr.sliceBound,asIntOf,go_sem]
theorem Ed(w:World)(g L c:Nat)(d:L<=c)(e:2<=L):(Instr.slice 29 (ae (some ⟨g,0,none⟩) L c) (some (ab 1)) none none).run Tryz.prog w=.ok (ae (some ⟨g,4,none⟩) (L-1) (c-1)) w:=by
 have a:(1:Int)<=(L:Int):=by omega
 have b:¬c=1:=by omega
 simp[Instr.slice,cq underlying29,Instr.sliceBounds,Instr.sliceBound,asIntOf,a,b,go_sem,dZ]
theorem Eb(w:World)(g m c:Nat)(e:m+1<=c):(Instr.slice 29 (ae (some ⟨g,0,none⟩) m c) (some (ab m)) (some (ab ((m:Int)+1))) none).run Tryz.prog w=.ok (ae (some ⟨g,m*4,none⟩) 1 (c-m)) w:=by
 have a:¬c=m:=by omega
 have b:(m:Int)+1<=(c:Int):=by omega
 have d:(0:Int)<=(m:Int)+1:=by omega
 simp[Instr.slice,cq underlying29,Instr.sliceBounds,Instr.sliceBound,asIntOf,a,b,d,go_sem,dZ]
theorem tP{w w':World}{v x' c:Value}{b:Array Oper}{o:Oper}{a:Act}{K:Act->World->Prop}{Q:Exit->Act->World->Prop}{E:Prop}(e:o.guard=none)(s x:Operand)(f:o.op=.call {callee:=.builtin .append,args:= #[s,x],argTypes:= #[29,29]})(h:a.eval s=v)(j:a.eval x=x')(g:(Builtin.append_ #[29,29] o.type #[v,x']).run Tryz.prog w=.ok c w')(d:K (a.put o.dst c) w'):if Region.wanted o (yielded b a.tmps)=true then Oper.wp Tryz.prog o a w K Q else E:=by
 have i:Region.wanted o (yielded b a.tmps)=true:=by simp[Region.wanted,e]
 rw[if_pos i];unfold Oper.wp execOp;simp only[f,resolve,invoke,builtin,kQ,Sem.run_pure,kP,mS,aN,b8,h,j,g];exact d
theorem ag{w:World}{g:Nat}{a:Array Value}{e:TypeId}(b:w.heap[g]?=some (.cells a e (0,0)))(j:Nat):w.cell? ⟨g,j,none⟩=a.toList[j]? :=by
 simp[World.cell?,b]
theorem C6{N:Nat}(base g c m:Nat)(y:Tm N)(l:List (Tm N))(w:World)(j:l.length=m)(C:nV base N (ae (some ⟨g,0,none⟩) (m+1) c) (y::l) w)(D:l≠[]):ak 84 #[ae (some ⟨g,0,none⟩) ((m:Nat)+1) c,ab 0,ab 1] w λe w'=>e=.returned (ae (some ⟨g,0,none⟩) m c)/\nV base N (ae (some ⟨g,0,none⟩) m c) l w'/\w.grownBy w' (some g)/\w'.heap.size=w.heap.size:=by
 obtain⟨R,K,Z,O,aa⟩:=bR Gy;have Y:0<m:=by
  rw[<-j];exact List.length_pos_iff.2 D
 obtain⟨E,F⟩:=C;rcases F with⟨e,_⟩|⟨V,cap,d,e,J,r,H,I,u,t⟩
 ·cases e
 ·injection e with i A B;injection i with i;injection i with i _;subst i B;simp only[bi,j]at E H t A;have q:d.toList.length=c*4:=by rw[ir,u]
  have M:d.toList.take ((m+1)*4)=dp N [y]++dp N l:=by
   rw[t,<-pS];rfl
  have S:(dp N [y]).length=4:=by rw[pT];rfl
  have f:(dp N l).length=m*4:=by rw[pT,j]
  have z:Hid (∀a:World,a.heap[g]?=some (.cells d 31 (0,0))->∀n o,(dp N l)[n]?=some o->a.cell? ((⟨g,4,none⟩:Addr).add n)=some o):=by
   intro a h n o s;have X:=(aS.1 s).1;rw[dZ,ag h];have e:(d.toList.take ((m+1)*4))[4+n]?=some o:=by
    rw[M,ed (by omega),S,Nat.add_sub_cancel_left];exact s
   rw[jk]at e;split at e
   ·exact e
   ·cases e
  have v:Hid (∀(a:World)(ty:TypeId),a.heap[g]?=some (.cells d 31 (0,0))->(Builtin.append_ #[29,29] ty #[ae (some ⟨g,0,none⟩) 0 c,ae (some ⟨g,4,none⟩) m (c-1)]).run Tryz.prog a=
   .ok (ae (some ⟨g,0,none⟩) m c) (a.setRow g (dp N l++d.toList.drop (m*4)).toArray)):=by
   intro a ty h;have p:=wN (P:=Tryz.prog) a 29 ty 31 R underlying29 K g 0 c d h ⟨g,4,none⟩ m (c-1) (dp N l) (by rw[f,O]) (z a h) (tg _) (by omega) (by rw[f,u];omega);simpa [f]using p
  have x:Hid (∀(a:World)(ty:TypeId),a.heap[g]?=some (.cells (dp N l++d.toList.drop (m*4)).toArray 31 (0,0))->(Builtin.clear_ #[29] ty #[ae (some ⟨g,m*4,none⟩) 1 (c-m)]).run Tryz.prog a=
   .ok (.tuple #[]) (a.setRow g (dp N l++pY++d.toList.drop ((m+1)*4)).toArray)):=by
   intro a ty h;have p:=wP a ty g (m*4) (c-m) _ h (by simp only[dO,bm,eZ,f,q];omega);rw[p];refine congrArg (λU=>Result.ok (Value.tuple #[]) (a.setRow g (List.toArray U))) ?_;rw[py,gV (by omega),bA (by omega),List.drop_append,pq (by omega),f,List.drop_drop,jJ];rw[show m*4+(m*4+4-m*4)=(m+1)*4 by omega]
  have G:=v w.drew 29 r;have HB:Hid ((w.drew.setRow g (dp N l++d.toList.drop (m*4)).toArray).heap[g]?=some (.cells (dp N l++d.toList.drop (m*4)).toArray 31 (0,0))):=setRow_heap w.drew g d _ _ _ r;have W:=λty:TypeId=>x _ ty HB;have ad:=λa:World=>KL a g (m+1) c (by omega) (by omega);have af:=λa:World=>Ec a g (m+1) c;have T:=λa:World=>Ed a g (m+1) c (by omega) (by omega);have ah:=λa:World=>Eb a g m c (by omega);rw[eJ]at T;go_enter func84,ntmps84;go_wp2_with fail;go_region_held3 (λ_=>True) (trivial) ((first|(refine tP rfl _ _ rfl (by simp[Act.eval]) (by simp[Act.eval]) G ?_)));go_wp2_with fail
  go_ret
  have k:∀b,b≠g->((w.drew.setRow g (dp N l++d.toList.drop (m*4)).toArray).setRow g (dp N l++(pY++d.toList.drop ((m+1)*4))).toArray).heap[b]?=w.heap[b]? :=λb k=>(setRow_other _ _ _ _ k).trans (setRow_other _ _ _ _ k);refine⟨rfl,⟨by rw[f,j],ai ⟨g,c,_,by rw[j],J,setRow_heap _ _ _ _ _ _ HB,by omega,I,?_,?_⟩⟩,⟨rfl,rfl,rfl,by simp,λb _ L=>k b λe=>L (by rw[e])⟩,by simp⟩
  ·have Q:pY.length=4:=rfl;simp only[dO,bm,eZ,f,q,Q];omega
  ·rw[py,gV (by omega),bA (by omega)]
def aB{c β:Type}(f:c->β->Bool):List c->List β->Bool
 | [],[]=>true
 | a::p,b::q=>f a b && aB f p q
 | _,_=>false
def ax:(n:Nat)->Tm n->(m:Nat)->Tm m->Bool
 | n+1,x,m+1,y=>x.1.1==y.1.1 && x.1.2.1==y.1.2.1 && x.1.2.2.toList==y.1.2.2.toList && aB (λa b=>ax n a m b) x.2.2 y.2.2
 | _,_,_,_=>false
theorem eW{a b:Bool}(c:a=b):Ending.returned (.bool a)=.returned (.bool b):=by rw[c]
theorem D7{c β:Type}(f:c->β->Bool)(p:List c)(q:List β)(k:Nat)(a:c)(b:β)(i:p[k]?=some a)(j:q[k]?=some b):aB f (p.drop k) (q.drop k)=(f a b && aB f (p.drop (k+1)) (q.drop (k+1))):=by
 obtain⟨g,d⟩:=aS.1 i;obtain⟨h,e⟩:=aS.1 j;rw[eH g,eH h,d,e];rfl
theorem vL{c β:Type}(f:c->β->Bool):(p:List c)->(q:List β)->¬p.length=q.length->aB f p q=false
 | [],[],h=>by simp at h
 | [],_::_,_=>rfl
 | _::_,[],_=>rfl
 | a::p,b::q,h=>by
  simp only[aB];rw[vL f p q (by simpa using h)];simp
def IN(n:Nat):Prop:=∀(x:Tm n)(m:Nat)(y:Tm m)(B:Nat)(w:World),In B w n x->In B w m y->B<=w.heap.size->
 ak 16 #[dq n x,dq m y] w λe w'=>e=.returned (.bool (ax n x m y))/\aj w w'
theorem Jy(p q:Nat)(a c:Option Addr)(pc d:Nat)(w:World)(_hpc:p<=9223372036854775807)(_hqc:q<=9223372036854775807)(b:((p:Int)==(q:Int))=false):ak 36 #[ae a p pc,ae c q d,.func (Fn.func 16) #[] #[]] w λe w'=>e=.returned (.bool false)/\w'=w:=by
 have f:((p:Int) !=(q:Int))=true:=by simpa using b
 go_enter func36,ntmps36;go_wp2_with fail
 go_ret
 exact⟨rfl,rfl⟩
theorem xi(a c:Option Addr)(pc d:Nat)(w:World):ak 36 #[ae a 0 pc,ae c 0 d,.func (Fn.func 16) #[] #[]] w λe w'=>e=.returned (.bool true)/\w'=w:=by
 go_enter func36,ntmps36;go_wp2_with fail
 go_loop [17] (λb=>b=ab 0) (λ_=>0)
 case atStart=>rfl
 case round=>
  obtain rfl:=hrel;go_wp2_with fail
  go_ret
  exact⟨rfl,rfl⟩
theorem Jw(n m:Nat)(ih:IN n)(p:List (Tm n))(q:List (Tm m))(len:Nat)(G:Hid (p.length=len))(I:Hid (q.length=len))(s po t J pc N:Nat)(B:Nat)(w:World)(S:len<=9223372036854775807)(L:s<B)(M:t<B)(F:∀(i:Nat)(y:Tm n),p[i]?=some y->dC w s (po+i*4) n y/\In B w n y)(H:∀(i:Nat)(y:Tm m),q[i]?=some y->dC w t (J+i*4) m y/\In B w m y)(g:B<=w.heap.size):ak 36 #[ae (some ⟨s,po,none⟩) len pc,ae (some ⟨t,J,none⟩) len N,.func (Fn.func 16) #[] #[]] w λe w'=> e=.returned (.bool (aB (λa b=>ax n a m b) p q))/\aj w w':=by
 go_enter func36,ntmps36;go_wp2_with fail;go_loopw [17] (λi wr=>∃k:Nat,k<=len/\i=ab k/\aj w wr/\Hid (aB (λa b=>ax n a m b) (p.drop k) (q.drop k)=aB (λa b=>ax n a m b) p q)) (λi _=>len-(intOf i).toNat)
 case atStart=>exact⟨0,by omega,rfl,ao _ _,rfl⟩
 case round=>
  obtain⟨k,P,rfl,d,x⟩:=hrel;by_cases E:k<len
  ·obtain⟨c,z⟩:∃c,p[k]?=some c:=⟨p[k]'(by rw[G.out];exact E),aI _⟩;obtain⟨y,A⟩:∃y,q[k]?=some y:=⟨q[k]'(by rw[I.out];exact E),aI _⟩;obtain⟨j,l⟩:=F k c z;obtain⟨o,r⟩:=H k y A;have h:=ap (D7 (λa b=>ax n a m b) p q k c y z A);replace j:=j.below (d.mono g) L;replace o:=o.below (d.mono g) M;replace l:=l.below (d.mono g);replace r:=r.below (d.mono g);clear F H z A;cases n with
   | zero=>exact j.elim
   | succ n=>
   cases m with
   | zero=>exact o.elim
   | succ m=>
   obtain⟨V,W,X,Y⟩:=j;obtain⟨y0,y1,y2,aa⟩:=o;have v:B<=wr.heap.size:=az g d.size
   have K:Hid (∀(f:World),aj wr f->ak 16 #[.agg #[ab c.1.1,ab c.1.2.1,af c.1.2.2,ae c.2.1.1 c.2.2.length c.2.1.2],.agg #[ab y.1.1,ab y.1.2.1,af y.1.2.2,ae y.2.1.1 y.2.2.length y.2.1.2]] f λe w'=>e=.returned (.bool (ax (n+1) c (m+1) y))/\aj f w'):=
    λf u=>ih c (m+1) y B f (l.below (u.mono v)) (r.below (u.mono v)) (az v u.size)
   clear ih l r;replace h:Hid (aB (λa b=>ax (n+1) a (m+1) b) (p.drop k) (q.drop k)=(ax (n+1) c (m+1) y && aB (λa b=>ax (n+1) a (m+1) b) (p.drop (k+1)) (q.drop (k+1)))):=h;generalize ax (n+1) c (m+1) y=O at*;generalize c.2.2.length=Z at*;generalize y.2.2.length=yl at*;have Q:(0:Int)<=(k:Int):=by omega
   have R:(k:Int)<(len:Int):=by omega
   have T:s<wr.heap.size:=by omega
   have U:t<wr.heap.size:=by omega
   go_wp2_with fail;refine(K _ (((ao _ _).alloc (am _) _).alloc (by simp) _)).mono ?_;rintro e f ⟨rfl,C⟩;have D:aj w f:=(d.trans ((((ao _ _).alloc (am _) _).alloc (by simp) _).mono d.size)).trans (C.mono (by have:=d.size;simp;omega));clear C;cases O with
   | true=>
    go_wp2_with fail;go_roundw
    case rel=>exact⟨k+1,by omega,by go_num,D,by rw[<-x.out,h.out];rfl⟩
    case measure=>simp[intOf];omega
   | false=>
    go_wp2_with fail
    go_ret
    exact⟨eW (by rw[<-x.out,h.out];rfl),D⟩
  ·go_wp2_with fail
   go_ret
   refine⟨eW ?_,d⟩;rw[<-x.out,gu (by rw[G.out];omega),gu (by rw[I.out];omega)];rfl
theorem pR(n m:Nat)(ih:IN n)(p:List (Tm n))(q:List (Tm m))(a c:Option Addr)(pc h:Nat)(B:Nat)(w:World)(f:p=[]\/∃b o,a=some ⟨b,o,none⟩/\b<B/\∀(i:Nat)(y:Tm n),p[i]?=some y->dC w b (o+i*4) n y/\In B w n y)(g:q=[]\/∃b o,c=some ⟨b,o,none⟩/\b<B/\∀(i:Nat)(y:Tm m),q[i]?=some y->dC w b (o+i*4) m y/\In B w m y)(l:p.length<=9223372036854775807)(r:q.length<=9223372036854775807)(k:B<=w.heap.size):ak 17 #[ae a p.length pc,ae c q.length h] w λe w'=>e=.returned (.bool (aB (λa b=>ax n a m b) p q))/\aj w w':=by
 have s:Hid (ak 36 #[ae a p.length pc,ae c q.length h,.func (Fn.func 16) #[] #[]] w λe w'=>
   e=.returned (.bool (aB (λa b=>ax n a m b) p q))/\aj w w'):=by
  by_cases d:p.length=q.length
  ·rcases f with f|⟨A,po,rfl,v,f⟩
   ·subst f;have x:q=[]:=bE d.symm;subst x;refine(xi a c pc h w).mono ?_;rintro e w' ⟨rfl,rfl⟩;exact⟨rfl,ao _ _⟩
   ·rcases g with g|⟨C,D,rfl,z,g⟩
    ·subst g;have u:p=[]:=bE d;subst u;refine(xi _ c pc h w).mono ?_;rintro e w' ⟨rfl,rfl⟩;exact⟨rfl,ao _ _⟩
    ·have j:=Jw n m ih p q p.length rfl d.symm A po C D pc h B w (by omega) v z f g k;rw[d]at j;rw[d];exact j
  ·rw[vL _ _ _ d];refine(Jy p.length q.length a c pc h w l r (by simp;omega)).mono ?_;rintro e w' ⟨rfl,rfl⟩;exact⟨rfl,ao _ _⟩
 clear f g ih l r k;generalize p.length=pl at*;generalize q.length=E at*;generalize aB (λa b=>ax n a m b) p q=F at*;go_enter func17,ntmps17;go_wp2_with fail;refine s.mono ?_;rintro e G ⟨rfl,t⟩;go_wp2_with fail
 go_ret
 exact⟨rfl,t⟩
theorem Hr(w:World)(k b u f:Int)(s d:ByteArray)(a g:Option Addr)(l i c h:Nat)(r:Bool)(H:Hid (∀w1:World,aj w w1->ak 17 #[ae a l c,ae g i h] w1 λe w'=>e=.returned (.bool r)/\aj w1 w')):ak 16 #[.agg #[ab k,ab u,af s,ae a l c],.agg #[ab b,ab f,af d,ae g i h]] w λe w'=>e=.returned (.bool (k==b && u==f && s.toList==d.toList && r))/\aj w w':=by
 cases h1:k==b
 ·go_enter func16,ntmps16;go_wp2_with fail
  go_ret
  exact⟨rfl,((ao _ _).alloc (am _) _).alloc (by simp) _⟩
 cases h2:u==f
 ·go_enter func16,ntmps16;go_wp2_with fail
  go_ret
  exact⟨rfl,((ao _ _).alloc (am _) _).alloc (by simp) _⟩
 cases h3:s.toList==d.toList
 ·go_enter func16,ntmps16;go_wp2_with fail
  go_ret
  exact⟨rfl,((ao _ _).alloc (am _) _).alloc (by simp) _⟩
 go_enter func16,ntmps16;go_wp2_with fail;refine(H _ (((ao _ _).alloc (am _) _).alloc (by simp) _)).mono ?_;rintro e w1 ⟨rfl,j⟩;go_wp2_with fail
 all_goals go_ret
 all_goals exact⟨rfl,(((ao _ _).alloc (am _) _).alloc (by simp) _).trans (j.mono (by simp;omega))⟩
theorem vM(n:Nat):IN n:=by
 induction n with
 | zero=>intro y j c p w m;exact m.elim
 | succ n ih=>
  intro y j c p w m a f;cases j with
  | zero=>exact a.elim
  | succ j=>
  obtain⟨⟨k,E,C⟩,⟨q,pc⟩,u⟩:=y;obtain⟨⟨B,F,D⟩,⟨r,x⟩,v⟩:=c;obtain⟨⟨_,_,_,z,s⟩,d⟩:=m;obtain⟨⟨_,_,_,A,t⟩,e⟩:=a;simp only at z s d A t e;unfold maxLen at s t;refine Hr w k B E F C D q r u.length v.length pc x _ (λG h=>pR n j ih u v q r pc x p G ?_ ?_ (by omega) (by omega) (az f h.size))
  ·rcases d with d|⟨b,o,l,g,d⟩
   ·exact ah d
   ·exact ai ⟨b,o,l,g,λi c a=>⟨(d i c a).1.below (h.mono f) g,(d i c a).2.below (h.mono f)⟩⟩
  ·rcases e with e|⟨b,o,l,g,e⟩
   ·exact ah e
   ·exact ai ⟨b,o,l,g,λi c a=>⟨(e i c a).1.below (h.mono f) g,(e i c a).2.below (h.mono f)⟩⟩
structure BL where
 b:Nat
 o:Nat
 c:Array Value
 t:TypeId
def tC(p:BL)(a:Option Nat)(w:World):Prop:=(p.o<p.c.size/\p.t≠31)/\w.heap[p.b]?=some (.cells (p.c.setIfInBounds p.o (.map a)) p.t (0,0))
theorem tC.cell{p:BL}{c:Option Nat}{w:World}(a:tC p c w):w.cell? ⟨p.b,p.o,none⟩=some (.map c)/\∀j,w.frozen? ⟨p.b,j,none⟩=false:=by
 refine⟨?_,λj=>by simp[World.frozen?,a.2]⟩;simp[World.cell?,a.2,a.1.1]
theorem tC.lt{p:BL}{c:Option Nat}{w:World}(a:tC p c w):p.b<w.heap.size:=(aF.1 a.2).1
theorem tC.kept{p:BL}{c:Option Nat}{w w':World}(a:tC p c w)(d:w'.heap[p.b]?=w.heap[p.b]?):tC p c w':=⟨a.1,d.trans a.2⟩
theorem tC.set{p:BL}{c mo':Option Nat}{w:World}(a:tC p c w):tC p mo' (w.setCell ⟨p.b,p.o,none⟩ (.map mo')):=by
 refine⟨a.1,?_⟩;simp[World.setCell,bJ,a.2]
def g9(base:Nat)(c:BL)(a:Option Nat)(n N:Nat)(f:Int×Int->List (Tm N))(sl:Int×Int->Value)(w:World):Prop:=
 base<=c.b/\tC c a w/\((a=none/\f=(λ_=> [])/\sl=λ_=>mC)\/∃mb,a=some mb/\GM base mb n N f sl w)
def rX(c:BL)(a:Option Nat)(sl:Int×Int->Value)(b:Nat):Prop:=b=c.b\/a=some b\/∃k,I2 k/\(sl k).ownBlock=some b
variable {base n N:Nat} {wp:BL} {mo:Option Nat} {f:Int×Int->List (Tm N)} {sl:Int×Int->Value} {w:World}
theorem g9.lt(c:g9 base wp mo n N f sl w)(b:Nat)(a:rX wp mo sl b):base<=b/\b<w.heap.size:=by
 obtain⟨d,e,g⟩:=c;rcases a with rfl|a
 ·exact⟨d,e.lt⟩
 ·rcases g with⟨rfl,_,rfl⟩|⟨mb,rfl,h⟩
  ·rcases a with a|⟨k,_,a⟩
   ·cases a
   ·simp[mC,Value.ownBlock]at a
  ·refine h.lt b ?_;rcases a with a|a
   ·exact ah (aw a).symm
   ·exact ai a
theorem E9{wp:BL}{mb b:Nat}{sl:Int×Int->Value}(a:Ns mb sl b):rX wp (some mb) sl b:=by
 rcases a with rfl|a
 ·exact ai (ah rfl)
 ·exact ai (ai a)
theorem g9.kee{S:Nat->Prop}{w':World}(c:g9 base wp mo n N f sl w)(k:bt S w w')(d:∀b,rX wp mo sl b->¬S b):g9 base wp mo n N f sl w':=by
 have j:=(c.lt wp.b (ah rfl)).2;obtain⟨e,g,a⟩:=c;refine⟨e,g.kept (k.block wp.b j (d wp.b (ah rfl))),?_⟩;rcases a with a|⟨mb,rfl,i⟩
 ·exact ah a
 ·exact ai ⟨mb,rfl,i.kee k λb h=>d b (E9 h)⟩
theorem g9.later{w':World}(a:g9 base wp mo n N f sl w)(k:aj w w'):g9 base wp mo n N f sl w':=a.kee (aK k λ_=>False) λ_ _ b=>b
theorem g9.row(a:g9 base wp mo n N f sl w){k:Int×Int}(c:I2 k):nV base N (sl k) (f k) w:=by
 rcases a.2.2 with⟨_,rfl,rfl⟩|⟨mb,_,b⟩
 ·exact⟨by simp[dp,cC],ah ⟨rfl,rfl⟩⟩
 ·exact b.row k c
theorem g9.look(b:g9 base wp mo n N f sl w){k:Int×Int}(a:I2 k):(Instr.lookup 51 (.map mo) (pk k) false).run Tryz.prog w=.ok (sl k) w:=by
 rcases b.2.2 with⟨rfl,_,rfl⟩|⟨mb,rfl,c⟩
 ·exact GK w a
 ·exact c.look a
theorem g9.cell(a:g9 base wp mo n N f sl w):w.cell? ⟨wp.b,wp.o,none⟩=some (.map mo)/\∀j,w.frozen? ⟨wp.b,j,none⟩=false:=by
 exact a.2.1.cell
theorem nV.sliced{v:Value}{l:List (Tm N)}(d:nV base N v l w):∃a c,v=.slice a l.length c:=by
 rcases d.2 with⟨rfl,b⟩|⟨f,cap,e,rfl,_⟩
 ·exact⟨none,0,by rw[b]⟩
 ·exact⟨_,_,rfl⟩
theorem IF(c:g9 base wp mo n N f sl w){a b:Int}(g:I2 (a,b)):ak 160 #[.pointer (some ⟨wp.b,wp.o,none⟩),ab a,ab b] w λe w'=>e=.returned (ab (f (a,b)).length)/\w'=w:=by
 have i:=c.cell.1;obtain⟨sa,sc,h⟩:=(c.row g).sliced;have d:=c.look g;rw[h]at d;unfold pk at d;simp only at d;clear c;go_enter func160,ntmps160;go_wp2_with fail
 go_ret
 exact⟨rfl,rfl⟩
theorem Fi(a:Int)(w:World):ak 159 #[ab a] w λe w'=>e=.returned (.bool (decide (1<=a) && decide (a<=99)))/\w'=w:=by
 go_enter func159,ntmps159;by_cases b:1<=a<;>by_cases c:a<=99
 all_goals
  go_wp2_with fail
  go_ret
  simp[b,c]
variable {base mb n N:Nat} {f:Int×Int->List (Tm N)} {sl:Int×Int->Value} {w wr:World}
def NI(base mb n N:Nat)(f:Int×Int->List (Tm N))(sl:Int×Int->Value)(k:Int×Int)(g:Nat)(W e:World):Prop:=
 ∀(a:World)(c:Value)(l:List (Tm N)),a.heap[mb]?=e.heap[mb]? ->bt (λb=>b=mb\/(sl k).ownBlock=some b) W a->l≠[]->nV base N c l a->(∀b,c.ownBlock=some b->(sl k).ownBlock=some b\/W.heap.size<=b)->
  ∃d,(Instr.entryStore 51 (.map (some mb)) (goInt g) c).run Tryz.prog a=.ok () d/\GM base mb (n+1) N (iI f k l) (iI sl k c) d/\bt (λb=>b=mb) a d/\d.heap.size=a.heap.size
def PD(base mb n N:Nat)(f:Int×Int->List (Tm N))(sl:Int×Int->Value)(k:Int×Int)(y:Tm N)(wr c:World):Prop:=
 ∃a,GM base mb (n+1) N (iI f k (f k++ [y])) (iI sl k a) c/\bt (Ns mb sl) wr c/\∀b,Ns mb (iI sl k a) b->Ns mb sl b\/wr.heap.size<=b
theorem GM.open(d:GM base mb n N f sl wr){k:Int×Int}(h:I2 k)(i:n<1000000){W:World}(e:aj wr W):∃(c:Nat)(a:World),(Instr.mapEntry 51 (.map (some mb)) (pk k)).run Tryz.prog W=.ok (.tuple #[sl k,goInt c]) a/\bt (λb=>b=mb) W a/\a.heap.size=W.heap.size/\NI base mb n N f sl k c W a:=
 (d.kee (aK e λ_=>False) λ_ _ g=>g).entry h i
theorem NI.done(o:GM base mb n N f sl wr){k:Int×Int}(s:I2 k){w L:Nat}{W i j e:World}(B:NI base mb n N f sl k w W i)(q:aj wr W)(J:bt (λb=>b=mb) W i)(M:i.heap.size=W.heap.size)(l:aj i j)(D:j.grownBy e (sl k).ownBlock){g c:Nat}{y:Tm N}(z:(f k).length=L)(F:e.ownsRow base 31 4 (ae (some ⟨g,0,none⟩) (L+1) c) (L+1) (dp N (f k)++vv (gj N y)))(A:(sl k).ownBlock=some g\/g=j.heap.size):∃h,(Instr.entryStore 51 (.map (some mb)) (goInt w) (ae (some ⟨g,0,none⟩) (L+1) c)).run Tryz.prog e=.ok () h/\PD base mb n N f sl k y wr h/\bt (λb=>b=mb) e h/\h.heap.size=e.heap.size:=by
 subst z;have K:=o.lt mb (ah rfl);have P:=q.size;have O:=l.size;have v:=eu D;have I:(Value.slice (some ⟨g,0,none⟩) ((f k).length+1) c).ownBlock=some g:=rfl;have u:∀b,(Value.slice (some ⟨g,0,none⟩) ((f k).length+1) c).ownBlock=some b->(sl k).ownBlock=some b\/W.heap.size<=b:=λb d=>by
  rw[I]at d;injection d with d;subst d;rcases A with a|a
  ·exact ah a
  ·exact ai (by omega)
 have p:bt (λb=>b=mb\/(sl k).ownBlock=some b) W e:=by
  refine bt.trans (bt.trans (J.mono λb _ a=>ah a) (aK l λ_=>False) λ_ _ C=>C.elim) v λb _ a=>ai a
 have E:e.heap[mb]?=i.heap[mb]? :=(v.block mb (by omega) (o.ne s)).trans (l.block mb (by omega))
 obtain⟨h,G,x,t,H⟩:=B e _ (f k++ [y]) E p (by simp) (by
  unfold nV;rw[pS,bm];have a:dp N [y]=vv (gj N y):=by simp[dp,cC]
  rw[a]
  exact F) u
 refine⟨h,G,⟨_,x,?_,λb d=>?_⟩,t,H⟩
 ·refine bt.trans (bt.trans (aK q _) (p.mono (T:=λb=>b=mb\/(sl k).ownBlock=some b) λb _ a=>a) λb _ a=>?_) t λb _ a=>ah a;rcases a with a|a
  ·exact ah a
  ·exact ai ⟨k,s,a⟩
 ·rcases d with d|⟨m,r,d⟩
  ·exact ah (ah d)
  ·by_cases a:m=k
   ·subst a;rw[cO]at d;rcases u b d with a|a
    ·exact ah (ai ⟨m,r,a⟩)
    ·exact ai (by omega)
   ·rw[bS _ _ a]at d;exact ah (ai ⟨m,r,d⟩)
section
variable {ops:Array Oper} {o:Oper} {a:Act} {K:Act->World->Prop} {Q:Exit->Act->World->Prop} {E:Prop}
end
variable {base n N:Nat} {wp:BL} {mo:Option Nat} {f:Int×Int->List (Tm N)} {sl:Int×Int->Value} {w:World}
def NU(base:Nat)(wp:BL)(mo:Option Nat)(n N:Nat)(f:Int×Int->List (Tm N))(sl:Int×Int->Value)(k:Int×Int)(l:List (Tm N))(w w':World):Prop:=
 ∃a c,g9 base wp a (n+1) N (iI f k l) c w'/\bt (rX wp mo sl) w w'/\∀b,rX wp a c b->rX wp mo sl b\/w.heap.size<=b
theorem Gz:(Tryz.prog.info? 31).map (λi=>(i.zero,i.size,i.bytes))=some (some (.agg #[ab 0,ab 0,af ⟨#[]⟩,ae none 0 0]),4,56):=by kernel_rfl
theorem Mb(mb:Nat)(W:World):(binOp .eql 51 (.map (some mb)) (.map none)).run Tryz.prog W=.ok (.bool false) W:=by kernel_rfl
theorem Ma(W:World):(binOp .eql 51 (.map none) (.map none)).run Tryz.prog W=.ok (.bool true) W:=by kernel_rfl
theorem fy{S:Nat->Prop}{W a:World}(c:bt S W a){b:Nat}(e:b<W.heap.size)(d:¬S b):∀o v,W.cell? ⟨b,o,none⟩=some v->a.cell? ⟨b,o,none⟩=some v:=λo _ f=>(c.cell o e d).trans f
theorem EK(wp:BL)(mb:Nat)(i j:Int)(y0 y1:Int)(ys:ByteArray)(ya:Option Addr)(yl yc L sc:Nat)(sa:Option Addr)(xs:List Value)(base:Nat)(w wr:World)(au:World->Nat->World->Prop)(aj:World->Prop)(bb:L<1000)(bd:base<=w.heap.size)(ai:wp.b<w.heap.size)(a2:(mb<w.heap.size/\wp.b≠mb/\wr=(w.alloc (.cells #[.int .i64 i,.int .i64 j] 44)).alloc (.cells #[.int .i64 y0,.int .i64 y1,.string ys,.slice ya yl yc] 31)/\(∀b,(Value.slice sa L sc).ownBlock=some b->b<w.heap.size/\b≠wp.b)/\Hid (w.cell? ⟨wp.b,wp.o,none⟩=some (.map (some mb))))\/(mb=w.heap.size+1+1/\wr=(((w.alloc (.cells #[.int .i64 i,.int .i64 j] 44)).alloc (.cells #[.int .i64 y0,.int .i64 y1,.string ys,.slice ya yl yc] 31)).alloc (.map #[] 0)).setCell ⟨wp.b,wp.o,none⟩ (.map (some mb))/\(∀b,(Value.slice sa L sc).ownBlock=some b->b<w.heap.size/\b≠wp.b)/\Hid (tC wp none w)))(aT:Hid (∀W,bt (λb=>b=mb) wr W->W.ownsRow base 31 4 (.slice sa L sc) L xs))(aL:Hid (∀W,Below wr.heap.size wr W->∃(z:Nat)(a:World),(Instr.mapEntry 51 (.map (some mb)) (pk (i,j))).run Tryz.prog W=.ok (.tuple #[.slice sa L sc,goInt z]) a/\(bt (λb=>b=mb) W a/\a.heap.size=W.heap.size/\au W z a)))(aU:Hid (∀W z a aa h g c,au W z a->Below wr.heap.size wr W->bt (λb=>b=mb) W a->a.heap.size=W.heap.size->Below a.heap.size a aa->aa.grownBy h (Value.slice sa L sc).ownBlock->h.ownsRow base 31 4 (.slice (some ⟨g,0,none⟩) (L+1) c) (L+1) (xs++ [.int .i64 y0,.int .i64 y1,.string ys,.slice ya yl yc])->((Value.slice sa L sc).ownBlock=some g\/g=aa.heap.size)-> ∃l,(Instr.entryStore 51 (.map (some mb)) (goInt z) (.slice (some ⟨g,0,none⟩) (L+1) c)).run Tryz.prog h=.ok () l/\(aj l/\bt (λb=>b=mb) h l/\l.heap.size=h.heap.size))):Calls Tryz.prog 161 #[.pointer (some ⟨wp.b,wp.o,none⟩),.agg #[.int .i64 i,.int .i64 j],.agg #[.int .i64 y0,.int .i64 y1,.string ys,.slice ya yl yc]] w λe w'=>e=.returned (.tuple #[])/\aj w':=by
 obtain⟨D,aB,aH,aI,aJ⟩:=bR Gz;have M:Hid (Tryz.prog.info? 31=some D/\D.zero=some (.agg #[.int .i64 0,.int .i64 0,.string ⟨#[]⟩,.slice none 0 0])/\D.size=4/\D.bytes=56):=⟨aB,aH,aI,aJ⟩;clear aB aH aI aJ;rcases a2 with⟨ag,ah,m,T,A⟩|⟨ag,m,T,A⟩
 case' inl=>
  have ab:=A.out;have aM:=Mb mb;have O:Hid (∃f d,f=w.heap.size/\d=w.heap.size+1):=⟨_,_,rfl,rfl⟩;go_enter func161,ntmps161;go_wp2_with fail;obtain⟨f,d,x,y⟩:=O.out;rw[<-m,<-y,<-x];have aG:wr.heap.size=w.heap.size+2:=by rw[m];simp
  have ak:Hid (Below w.heap.size w wr):=by
   rw[m];exact((ao _ _).alloc (am _) _).alloc (by simp) _
  have Y:Hid (wr.heap[f]?=some (.cells #[.int .i64 i,.int .i64 j] 44)):=by
   rw[m,x];exact(((ao _ _).alloc (am _) _).block w.heap.size (by simp)).trans (aA w _)
  have Z:Hid (wr.heap[d]?=some (.cells #[.int .i64 y0,.int .i64 y1,.string ys,.slice ya yl yc] 31)):=by
   rw[m,y];have s:=aA (w.alloc (.cells #[.int .i64 i,.int .i64 j] 44)) (.cells #[.int .i64 y0,.int .i64 y1,.string ys,.slice ya yl yc] 31);have e:(w.alloc (.cells #[.int .i64 i,.int .i64 j] 44)).heap.size=w.heap.size+1:=by simp
   rwa [e]at s
  have V:Hid (wr.cell? ⟨wp.b,wp.o,none⟩=some (.map (some mb))):=(ak.cell (p:=⟨wp.b,wp.o,none⟩) ai).trans ab;clear ak
 case' inr=>
  have ab:w.cell? ⟨wp.b,wp.o,none⟩=some (.map none):=A.cell.1;have ad:tC wp none (((w.alloc (.cells #[.int .i64 i,.int .i64 j] 44)).alloc (.cells #[.int .i64 y0,.int .i64 y1,.string ys,.slice ya yl yc] 31)).alloc (.map #[] 0)):=A.kept (((((ao w.heap.size w).alloc (am _) _).alloc (by simp) _).alloc (by simp;omega) _).block wp.b ai);have a9:(((w.alloc (.cells #[.int .i64 i,.int .i64 j] 44)).alloc (.cells #[.int .i64 y0,.int .i64 y1,.string ys,.slice ya yl yc] 31)).alloc (.map #[] 0)).frozen? ⟨wp.b,wp.o,none⟩=false:=ad.cell.2 _;have ba:(((w.alloc (.cells #[.int .i64 i,.int .i64 j] 44)).alloc (.cells #[.int .i64 y0,.int .i64 y1,.string ys,.slice ya yl yc] 31)).alloc (.map #[] 0)).cell? ⟨wp.b,wp.o,none⟩=some (.map none):=ad.cell.1;clear ad;have ah:wp.b≠mb:=by omega
  have aM:=Ma;have be:= @run_makeMap Tryz.prog;have O:Hid (∃f d,f=w.heap.size/\d=w.heap.size+1):=⟨_,_,rfl,rfl⟩;go_enter func161,ntmps161;go_wp2_with fail;obtain⟨f,d,x,y⟩:=O.out;rw[<-ag,<-m,<-y,<-x];have aG:wr.heap.size=w.heap.size+3:=by rw[m];simp[World.setCell]
  have ae:∀b,b≠wp.b->wr.heap[b]?=(((w.alloc (.cells #[.int .i64 i,.int .i64 j] 44)).alloc (.cells #[.int .i64 y0,.int .i64 y1,.string ys,.slice ya yl yc] 31)).alloc (.map #[] 0)).heap[b]? :=λb C=>by
   rw[m];have:wp.b≠b:=λe=>C e.symm;simp[World.setCell,bJ,this]
  have Y:Hid (wr.heap[f]?=some (.cells #[.int .i64 i,.int .i64 j] 44)):=by
   rw[ae f (by omega),x];exact((((ao _ _).alloc (am _) _).alloc (by simp) _).block w.heap.size (by simp)).trans (aA w _)
  have Z:Hid (wr.heap[d]?=some (.cells #[.int .i64 y0,.int .i64 y1,.string ys,.slice ya yl yc] 31)):=by
   rw[ae d (by omega),y];have s:=aA (w.alloc (.cells #[.int .i64 i,.int .i64 j] 44)) (.cells #[.int .i64 y0,.int .i64 y1,.string ys,.slice ya yl yc] 31);have e:(w.alloc (.cells #[.int .i64 i,.int .i64 j] 44)).heap.size=w.heap.size+1:=by simp
   rw[e]at s;exact(((ao _ _).alloc (am _) _).block (w.heap.size+1) (by simp)).trans s
  have V:Hid (wr.cell? ⟨wp.b,wp.o,none⟩=some (.map (some mb))):=by
   rw[m];exact(tC.set (mo':=some mb) (A.kept (((((ao w.heap.size w).alloc (am _) (.cells #[.int .i64 i,.int .i64 j] 44)).alloc (by simp) (.cells #[.int .i64 y0,.int .i64 y1,.string ys,.slice ya yl yc] 31)).alloc (by simp;omega) (.map #[] 0)).block wp.b ai))).cell.1
  clear ae
 all_goals
  have aC:f<wr.heap.size:=by omega
  have aD:d<wr.heap.size:=by omega
  have aE:wp.b<wr.heap.size:=by omega
  have a4:mb<wr.heap.size:=by omega
  have bc:base<=wr.heap.size:=by omega
  have S:f≠mb:=by omega
  have u:d≠mb:=by omega
  have U:∀b,(Value.slice sa L sc).ownBlock=some b->b≠f/\b≠d/\b≠wp.b:=λb C=>⟨by have:=(T b C).1;omega,by have:=(T b C).1;omega,(T b C).2⟩;have N:Hid (∀W,Below wr.heap.size wr W->W.cell? ⟨wp.b,wp.o,none⟩=some (.map (some mb))/\(W.cell? ⟨f,0,none⟩=some (.int .i64 i)/\W.cell? ⟨f,1,none⟩=some (.int .i64 j))/\(W.cell? ⟨d,0,none⟩=some (.int .i64 y0)/\W.cell? ⟨d,1,none⟩=some (.int .i64 y1)/\W.cell? ⟨d,2,none⟩=some (.string ys)/\W.cell? ⟨d,3,none⟩=some (.slice ya yl yc))):=by
   intro W n;have aw:=(n.block f aC).trans Y;have Q:=(n.block d aD).trans Z;exact⟨(n.cell (p:=⟨wp.b,wp.o,none⟩) aE).trans V,⟨by simp[World.cell?,aw],by simp[World.cell?,aw]⟩,by simp[World.cell?,Q],by simp[World.cell?,Q],by simp[World.cell?,Q],by simp[World.cell?,Q]⟩
  have X:Hid (∀B W a,bt B W a->wr.heap.size<=W.heap.size->¬B wp.b->¬B f->¬B d->(W.cell? ⟨wp.b,wp.o,none⟩=some (.map (some mb))/\(W.cell? ⟨f,0,none⟩=some (.int .i64 i)/\W.cell? ⟨f,1,none⟩=some (.int .i64 j))/\(W.cell? ⟨d,0,none⟩=some (.int .i64 y0)/\W.cell? ⟨d,1,none⟩=some (.int .i64 y1)/\W.cell? ⟨d,2,none⟩=some (.string ys)/\W.cell? ⟨d,3,none⟩=some (.slice ya yl yc)))->
    a.cell? ⟨wp.b,wp.o,none⟩=some (.map (some mb))/\(a.cell? ⟨f,0,none⟩=some (.int .i64 i)/\a.cell? ⟨f,1,none⟩=some (.int .i64 j))/\(a.cell? ⟨d,0,none⟩=some (.int .i64 y0)/\a.cell? ⟨d,1,none⟩=some (.int .i64 y1)/\a.cell? ⟨d,2,none⟩=some (.string ys)/\a.cell? ⟨d,3,none⟩=some (.slice ya yl yc))):=by
   rintro B W a k bf a6 a7 a8 ⟨E,⟨F,G⟩,H,I,J,K⟩;have aX:=fy k (b:=wp.b) (by omega) a6;have av:=fy k (b:=f) (by omega) a7;have P:=fy k (b:=d) (by omega) a8;exact⟨aX _ _ E,⟨av _ _ F,av _ _ G⟩,P _ _ H,P _ _ I,P _ _ J,P _ _ K⟩
  have an:Hid (∀W a,Below wr.heap.size wr W->bt (λb=>b=mb) W a->a.cell? ⟨wp.b,wp.o,none⟩=some (.map (some mb))/\(a.cell? ⟨f,0,none⟩=some (.int .i64 i)/\a.cell? ⟨f,1,none⟩=some (.int .i64 j))/\(a.cell? ⟨d,0,none⟩=some (.int .i64 y0)/\a.cell? ⟨d,1,none⟩=some (.int .i64 y1)/\a.cell? ⟨d,2,none⟩=some (.string ys)/\a.cell? ⟨d,3,none⟩=some (.slice ya yl yc))):=
   λW a n k=>X _ W a k n.size ah S u (N W n)
  have aS:Hid (∀W a h,Below wr.heap.size wr W->bt (λb=>b=mb) W a->a.grownBy h (Value.slice sa L sc).ownBlock->h.cell? ⟨wp.b,wp.o,none⟩=some (.map (some mb))/\(h.cell? ⟨f,0,none⟩=some (.int .i64 i)/\h.cell? ⟨f,1,none⟩=some (.int .i64 j))/\(h.cell? ⟨d,0,none⟩=some (.int .i64 y0)/\h.cell? ⟨d,1,none⟩=some (.int .i64 y1)/\h.cell? ⟨d,2,none⟩=some (.string ys)/\h.cell? ⟨d,3,none⟩=some (.slice ya yl yc))):=
   λW a h n k a3=>X _ a h (eu a3) (az n.size k.size) (λe=>(U _ e).2.2 rfl) (λe=>(U _ e).1 rfl) (λe=>(U _ e).2.1 rfl) (an W a n k)
  have q:Hid (Below wr.heap.size wr (wr.alloc (.cells #[.int .i64 y0,.int .i64 y1,.string ys,.slice ya yl yc] 31)).drew):=(show Below _ _ _ by go_grown);have ar:Hid ((wr.alloc (.cells #[.int .i64 y0,.int .i64 y1,.string ys,.slice ya yl yc] 31)).drew.heap.size=wr.heap.size+1):=(show _=_ by simp[World.drew]);have aN:Hid (∀a,bt (λb=>b=mb) (wr.alloc (.cells #[.int .i64 y0,.int .i64 y1,.string ys,.slice ya yl yc] 31)).drew a->bt (λb=>b=mb) wr a):=λa k=>bt.trans (aK q _) k λ_ _ e=>e
  have aO:Hid (∀a,bt (λb=>b=mb) (wr.alloc (.cells #[.int .i64 y0,.int .i64 y1,.string ys,.slice ya yl yc] 31)).drew a->a.heap[wr.heap.size]?=some (.cells #[.int .i64 y0,.int .i64 y1,.string ys,.slice ya yl yc] 31)):=
   λa k=>(k.block wr.heap.size (by rw[ar.out];omega) (by omega)).trans (aA wr _)
  have aR:Hid (∀h l,(h.cell? ⟨wp.b,wp.o,none⟩=some (.map (some mb))/\(h.cell? ⟨f,0,none⟩=some (.int .i64 i)/\h.cell? ⟨f,1,none⟩=some (.int .i64 j))/\(h.cell? ⟨d,0,none⟩=some (.int .i64 y0)/\h.cell? ⟨d,1,none⟩=some (.int .i64 y1)/\h.cell? ⟨d,2,none⟩=some (.string ys)/\h.cell? ⟨d,3,none⟩=some (.slice ya yl yc)))->bt (λb=>b=mb) h l->(l.cell? ⟨wp.b,wp.o,none⟩=some (.map (some mb))/\(l.cell? ⟨f,0,none⟩=some (.int .i64 i)/\l.cell? ⟨f,1,none⟩=some (.int .i64 j))/\(l.cell? ⟨d,0,none⟩=some (.int .i64 y0)/\l.cell? ⟨d,1,none⟩=some (.int .i64 y1)/\l.cell? ⟨d,2,none⟩=some (.string ys)/\l.cell? ⟨d,3,none⟩=some (.slice ya yl yc)))):=by
   rintro h l ⟨E,⟨F,G⟩,H,I,J,K⟩ k;have lt:=λ(b o:Nat)(v:Value)(s:h.cell? ⟨b,o,none⟩=some v)=>fx h ⟨b,o,none⟩ s;exact⟨fy k (lt _ _ _ E) ah _ _ E,⟨fy k (lt _ _ _ F) S _ _ F,fy k (lt _ _ _ G) S _ _ G⟩,fy k (lt _ _ _ H) u _ _ H,fy k (lt _ _ _ I) u _ _ I,fy k (lt _ _ _ J) u _ _ J,fy k (lt _ _ _ K) u _ _ K⟩
  obtain⟨E,⟨F,G⟩,H,I,J,K⟩:=N.out wr (ao _ _);obtain⟨z,a,a0,R⟩:=aL _ q;have r:=ap R;have aP:=ap (an _ _ q R.1);have aW:=ap (R.2.1.trans ar);simp only[pk,goInt]at a0;clear R;clear ag x y m O aG V Y Z X ab aC aD aE a4 S u U;go_wp2_with fail
  go_region_held3 (λW=>W.cell? ⟨wp.b,wp.o,none⟩=some (.map (some mb))/\(W.cell? ⟨f,0,none⟩=some (.int .i64 i)/\W.cell? ⟨f,1,none⟩=some (.int .i64 j))/\(W.cell? ⟨d,0,none⟩=some (.int .i64 y0)/\W.cell? ⟨d,1,none⟩=some (.int .i64 y1)/\W.cell? ⟨d,2,none⟩=some (.string ys)/\W.cell? ⟨d,3,none⟩=some (.slice ya yl yc)))
   (first|(go_keep;done)|exact N _ (ao _ _).drew|exact N _ q|exact aP|exact al|exact aQ) ((first
    | (refine step_append_lies _ rfl _ _ 29 rfl base 31 D _ 4 56 underlying29 M.1 M.2.1 M.2.2.1 M.2.2.2 rfl (by decide) (.slice sa L sc) L xs (by simp[Act.eval]) (aT _ (aN _ r.1)) ⟨wr.heap.size,0,none⟩ 1 1 [.int .i64 y0,.int .i64 y1,.string ys,.slice ya yl yc] (by simp[Act.eval]) rfl (World.news_of_block (cs:= #[.int .i64 y0,.int .i64 y1,.string ys,.slice ya yl yc]) (t:=31) (fr:=(0,0)) (aO _ r.1)) (by simp[Value.oneCell']) (by decide) (by unfold maxLen;omega) (by omega) (by have:=aW.out;omega) _ rfl ?_;intro aZ aY h aF af ay a5;have aV:=aU _ _ _ _ _ aZ aY r.2.2 q r.1 r.2.1 (ao _ _) af aF ay;obtain⟨l,a1,ax⟩:=aV;have aq:=ap ax;simp only[goInt]at a1;have al:=ap (aS _ _ _ q r.1 af);have aQ:=ap (aR _ _ al aq.2.1);clear aF af ay a5 ax)))
  exact dh (v:=.tuple #[]) (by simp[results]) rfl ⟨rfl,aq.1⟩
theorem uG(x y:Int):(x<y/\lB x y=-1)\/(x=y/\lB x y=0)\/(y<x/\lB x y=1):=by
 unfold lB;by_cases a:x<y
 ·rw[if_pos a];exact ah ⟨a,rfl⟩
 ·rw[if_neg a];by_cases b:y<x
  ·rw[if_pos b];exact ai (ai ⟨b,rfl⟩)
  ·rw[if_neg b];exact ai (ah ⟨by omega,rfl⟩)
theorem I3:(x y:List UInt8)->Op.bytesLess x y=true->Op.bytesLess y x=false
 | _,[],c=>by simp[Op.bytesLess]at c
 | [],_::_,_=>by simp[Op.bytesLess]
 | a::x,b::y,c=>by
  simp only[Op.bytesLess,iv,cd,aG,cv]at c;simp only[Op.bytesLess,Bool.or_eq_false_iff,decide_eq_false_iff_not,Bool.and_eq_false_iff,iC];rcases c with c|⟨rfl,c⟩
  ·rw[pA]at c;refine⟨by rw[pA];omega,ah λe=>by subst e;omega⟩
  ·exact⟨by rw[pA];omega,ai (I3 x y c)⟩
theorem I4:(x y:List UInt8)->Op.bytesLess x y=false->Op.bytesLess y x=false->x=y
 | [],[],_,_=>rfl
 | [],_::_,h,_=>by simp[Op.bytesLess]at h
 | _::_,[],_,h=>by simp[Op.bytesLess]at h
 | a::x,b::y,h,h'=>by
  simp only[Op.bytesLess,Bool.or_eq_false_iff,decide_eq_false_iff_not,Bool.and_eq_false_iff,iC]at h h';obtain⟨c,d⟩:=h;obtain⟨f,g⟩:=h';have e:a=b:=by
   rw[pA]at c f;exact UInt8.toNat_inj.1 (by omega)
  subst e;rw[I4 x y (d.resolve_left (λn=>n rfl)) (g.resolve_left (λn=>n rfl))]
theorem xb(l:List UInt8):Op.bytesLess l l=false:=by
 induction l with
 | nil=>rfl
 | cons a l ih=>simp[Op.bytesLess,ih]
theorem Je(x y:ByteArray):(Op.bytesLess x.toList y.toList=true/\wF x y=-1)\/(x.toList=y.toList/\wF x y=0)\/(Op.bytesLess y.toList x.toList=true/\wF x y=1):=by
 unfold wF;cases h:Op.bytesLess x.toList y.toList
 ·by_cases a:x.toList=y.toList
  ·rw[a];simp
  ·have c:Op.bytesLess y.toList x.toList=true:=by
     cases h2:Op.bytesLess y.toList x.toList
     ·exact(a (I4 _ _ h h2)).elim
     ·rfl
   have b:(x.toList==y.toList)=false:=by simpa using a
   rw[b];simp[c]
 ·simp
theorem dj{x:Tm 0}(c:∀a∈ay 0 x,cE a=true):False:=by
 have:=c ((0,0,.empty),(none,0,0)) (by simp[ay]);rcases kv _ this with b|b|b|b|b|⟨b,_⟩<;>simp at b
theorem xH{h β:Type}(f:h->β->Int)(g:h->β->Bool):(p:List h)->(q:List β)->p.length=q.length->(∀a∈p,∀b∈q,(f a b=0 ↔ g a b=true))->(pJ f p q=0 ↔ aB g p q=true)
 | [],[],_,_=>by simp[pJ,aB]
 | [],_::_,e,_=>by simp at e
 | _::_,[],e,_=>by simp at e
 | a::p,b::q,e,H=>by
  have i:=H a (by simp) b (by simp);have l:=xH f g p q (by simpa using e) (λj m k n=>H j (by simp[m]) k (by simp[n]));simp only[pJ,aB,aG];by_cases d:f a b=0
  ·rw[if_pos d,l];exact⟨λc=>⟨i.1 d,c⟩,λc=>c.2⟩
  ·rw[if_neg d];exact⟨λc=>(d c).elim,λc=>(d (i.2 c.1)).elim⟩
theorem eM(x:Nd)(b:cE x=true):(x.1.1≠2->x.1.2.2.toList=[])/\(x.1.1=2->x.1.2.1=0)/\(x.1.1=4->x.1.2.1=0)/\(x.1.1=6->x.1.2.1=0)/\(x.1.1≠4->x.2.2.1=0):=by
 have c:=kv x b;unfold cE at b;rcases c with a|a|a|a|a|⟨a,d⟩
 all_goals (rw[a]at b ⊢;simp at b ⊢;simp[b])
theorem BJ:(n:Nat)->(x:Tm n)->(m:Nat)->(y:Tm m)->(∀a∈ay n x,cE a=true)->(∀a∈ay m y,cE a=true)->(xG n x m y=0 ↔ ax n x m y=true)
 | 0,_,_,_,f,_=>(dj f).elim
 | _+1,_,0,_,_,f=>(dj f).elim
 | n+1,x,m+1,y,hx,hy=>by
  have l:=eM _ (hx (x.1,(x.2.1.1,x.2.2.length,x.2.1.2)) (by simp[ay]));have j:=eM _ (hy (y.1,(y.2.1.1,y.2.2.length,y.2.1.2)) (by simp[ay]));have C:=kv _ (hx (x.1,(x.2.1.1,x.2.2.length,x.2.1.2)) (by simp[ay]));have H:=λe=>xH (λa b=>xG n a m b) (λa b=>ax n a m b) x.2.2 y.2.2 e (λa F b G=>BJ n a m b (λd w=>hx d (oU F w)) (λd w=>hy d (oU G w)));simp only at l j C;simp only[xG,ax];have E:=Je x.1.2.2 y.1.2.2;have L:=uG x.1.2.1 y.1.2.1;have M:=uG x.1.1 y.1.1;have N:=uG x.2.2.length y.2.2.length;obtain⟨⟨k,u,s⟩,⟨a,c⟩,p⟩:=x;obtain⟨⟨B,z,I⟩,⟨J,K⟩,q⟩:=y;simp only at*;clear hx hy;by_cases e:k=B
  ·subst e;rw[if_pos rfl];have o:k≠4->p=[]/\q=[]:=λf=>⟨bE (l.2.2.2.2 f),bE (j.2.2.2.2 f)⟩;have r:k≠2->s.toList=[]/\I.toList=[]:=λf=>⟨l.1 f,j.1 f⟩;rcases C with g|g|g|g|g|⟨g,D⟩
   ·subst g;obtain⟨rfl,rfl⟩:=o (by decide);obtain⟨h,i⟩:=r (by decide);rw[if_pos (by decide),h,i];simp[aB];omega
   ·subst g;obtain⟨rfl,rfl⟩:=o (by decide);have A:u=0:=l.2.1 rfl;have t:z=0:=j.2.1 rfl;subst A t;rw[if_neg (by decide),if_pos rfl];simp[aB];rcases E with⟨f,v⟩|⟨f,v⟩|⟨f,v⟩
    ·refine⟨λe=>by omega,λe=>?_⟩;rw[e,xb]at f;cases f
    ·exact⟨λ_=>f,λ_=>v⟩
    ·refine⟨λe=>by omega,λe=>?_⟩;rw[e,xb]at f;cases f
   ·subst g;obtain⟨rfl,rfl⟩:=o (by decide);obtain⟨h,i⟩:=r (by decide);rw[if_pos (by decide),h,i];simp[aB];omega
   ·subst g;obtain⟨h,i⟩:=r (by decide);have A:u=0:=l.2.2.1 rfl;have t:z=0:=j.2.2.1 rfl;subst A t;rw[if_neg (by decide),if_neg (by decide),if_pos rfl,h,i];by_cases el:p.length=q.length
    ·rw[if_pos el,H el];simp
    ·rw[if_neg el,vL _ _ _ el];simp;omega
   ·subst g;obtain⟨rfl,rfl⟩:=o (by decide);obtain⟨h,i⟩:=r (by decide);rw[if_pos (by decide),h,i];simp[aB];omega
   ·subst g;obtain⟨rfl,rfl⟩:=o (by decide);obtain⟨h,i⟩:=r (by decide);have t:z=0:=j.2.2.2.1 rfl;subst D t;rw[if_neg (by decide),if_neg (by decide),if_neg (by decide),h,i];simp[aB]
  ·rw[if_neg e];have:(k==B)=false:=by simpa using e
   rw[this];simp;omega
abbrev An:=(n:Nat)×Tm n
def bU:An->Int
 | ⟨0,_⟩=>0
 | ⟨_+1,x⟩=>x.1.1
def eq(x y:An):Bool:=ax x.1 x.2 y.1 y.2
def FJ(B:Nat)(w:World)(x:An):Prop:=In B w x.1 x.2
def aD(x:An):Prop:=∀a∈ay x.1 x.2,cE a=true
def iH{a β S:Type}(f:a->β->S->Option S):List a->List β->S->Option S
 | x::p,y::q,b=>(f x y b).bind (iH f p q)
 | _,_,b=>some b
def uN(b:List An)(i:Nat)(t:An):Option (List An):=
 match b[i]? with
 | some a=>if bU a=6 then some (b.set i t)else if eq a t then some b else none
 | none=>none
def hU:(n:Nat)->Tm n->(m:Nat)->Tm m->List An->Option (List An)
 | n+1,p,m+1,t,b=>
  if p.1.1=6 then some b
  else if p.1.1=5 then uN b p.1.2.1.toNat ⟨m+1,t⟩
  else if p.1.1=4 then
   if t.1.1=4/\p.2.2.length=t.2.2.length then iH (λx y b=>hU n x m y b) p.2.2 t.2.2 b else none
  else if ax (n+1) p (m+1) t then some b else none
 | _,_,_,_,_=>none
def PP(x y:An)(b:List An):Option (List An):=hU x.1 x.2 y.1 y.2 b
def kZ:List (An×An)->List An->Option (List An)
 | [],b=>some b
 | (x,y)::r,b=>(PP x y b).bind (kZ r)
def il(n m:Nat)(p:List (Tm n))(q:List (Tm m)):List (An×An):=List.zipWith (λx y=>(⟨n,x⟩,⟨m,y⟩)) p q
def uo(P:An->Prop):Prop:=∀(n:Nat)(x:Tm (n+1))(y:Tm n),P ⟨n+1,x⟩->y∈x.2.2->P ⟨n,y⟩
theorem xp{a β S:Type}(f:a->β->S->Option S)(Q:S->Prop):(p:List a)->(q:List β)->(∀x∈p,∀y∈q,∀b c,Q b->f x y b=some c->Q c)->∀b c,Q b->iH f p q b=some c->Q c
 | [],_,_,b,c,hb,h=>by simp[iH]at h;rw[<-h];exact hb
 | _::_,[],_,b,c,hb,h=>by simp[iH]at h;rw[<-h];exact hb
 | x::p,y::q,hf,b,c,hb,h=>by
  simp only[iH]at h;obtain⟨d,e,g⟩:=bu.1 h;exact xp f Q p q (λx' i k j=>hf x' (bM _ i) k (bM _ j)) d c (hf x (by simp) y (by simp) b d hb e) g
theorem Gm(P:An->Prop)(b c:List An)(i:Nat)(t:An)(f:P t)(d:b.length=4/\∀y∈b,P y)(a:uN b i t=some c):c.length=4/\∀y∈c,P y:=by
 unfold uN at a;split at a
 ·split at a
  ·obtain rfl:=aw a;refine⟨by simpa using d.1,λy g=>?_⟩;rcases sT g with e|rfl
   ·exact d.2 y e
   ·exact f
  ·split at a
   ·obtain rfl:=aw a;exact d
   ·cases a
 ·cases a
theorem kY(P:An->Prop)(d:uo P):(n:Nat)->(p:Tm n)->(m:Nat)->(t:Tm m)->P ⟨m,t⟩->∀b c,(b.length=4/\∀y∈b,P y)->hU n p m t b=some c->(c.length=4/\∀y∈c,P y)
 | 0,_,_,_,_,_,_,_,h=>by simp[hU]at h
 | n+1,_,0,_,_,_,_,_,h=>by simp[hU]at h
 | n+1,p,m+1,t,ht,b,c,a,h=>by
  simp only[hU]at h;split at h
  ·obtain rfl:=aw h;exact a
  split at h
  ·exact Gm P b c _ _ ht a h
  split at h
  ·split at h
   ·exact xp _ _ p.2.2 t.2.2 (λx g y f b c a e=>kY P d n x m y (d m t y ht f) b c a e) b c a h
   ·cases h
  ·split at h
   ·obtain rfl:=aw h;exact a
   ·cases h
theorem Gl{a β S:Type}(f:a->β->S->Option S)(p:List a)(q:List β)(k:Nat)(x:a)(y:β)(h:p[k]?=some x)(i:q[k]?=some y)(b:S):iH f (p.drop k) (q.drop k) b=(f x y b).bind (iH f (p.drop (k+1)) (q.drop (k+1))):=by
 obtain⟨e,c⟩:=aS.1 h;obtain⟨g,d⟩:=aS.1 i;rw[eH e,eH g,c,d];rfl
theorem Ko(B:Nat)(w:World):uo (FJ B w):=by
 intro n h i d c;rcases d.2 with a|⟨b,o,j,k,a⟩
 ·have e:h.2.2=[]:=a;rw[e]at c;cases c
 ·obtain⟨g,f⟩:=cW c;exact(a g i f).2
theorem aV:uo aD:=λ_ _ _ b d a c=>b a (oU d c)
theorem Ha{P Q:An->Prop}(c:uo P)(d:uo Q):uo λx=>P x/\Q x:=λn x y a b=>⟨c n x y a.1 b,d n x y a.2 b⟩
def tf(a:An):Nd:=gj a.1 a.2
def fU(l:List An):List Value:=cC (l.map tf)
theorem kV(l:List An):(fU l).length=l.length*4:=by simp[fU,oo]
theorem Av(l:List An):∀u∈fU l,u.oneCell'=true:=tg _
def nh(base:Nat)(g c:Nat)(b:List An)(w:World):Prop:=w.ownsRow base 31 4 (ae (some ⟨g,0,none⟩) b.length c) b.length (fU b)
theorem nh.cells{base g c:Nat}{b:List An}{w:World}(a:nh base g c b w)(i:Nat)(y:An)(d:b[i]?=some y):w.cell? ⟨g,i*4,none⟩=some (ab (tf y).1.1)/\w.cell? ⟨g,i*4+1,none⟩=some (ab (tf y).1.2.1)/\w.cell? ⟨g,i*4+2,none⟩=some (af (tf y).1.2.2)/\w.cell? ⟨g,i*4+3,none⟩=some (.slice (tf y).2.1 (tf y).2.2.1 (tf y).2.2.2):=
 DO (l:=b.map tf) a i (tf y) (by simp[d])
theorem nh.lt{base g c:Nat}{b:List An}{w:World}(a:nh base g c b w):base<=g/\g<w.heap.size:=World.ownsRow.lt a g rfl
theorem nh.kept{base g c:Nat}{b:List An}{w w':World}(d:nh base g c b w){row:Option Nat}(e:w.grownBy w' row)(f:row≠some g):nh base g c b w':=
 pC d e (ai λa=>f a.symm)
theorem cP{w w':World}(a:aj w w')(row:Option Nat):w.grownBy w' row:=⟨a.os,a.tape,a.output,a.size,λk b _=>a.block k b⟩
theorem nh.below{base g c:Nat}{b:List An}{w w':World}(a:nh base g c b w)(d:aj w w'):nh base g c b w':=a.kept (cP d none) (by simp)
theorem og{w w':World}{g B:Nat}(a:w.grownBy w' (some g))(b:B<=g)(c:g<w.heap.size):Below B w w':=⟨a.os,a.tape,a.output,a.size,λk d=>a.block k (by omega) (by simp;omega)⟩
theorem lJ{w w1 w2:World}{row:Option Nat}(a:w.grownBy w1 row)(k:w1.grownBy w2 row):w.grownBy w2 row:=
 ⟨k.os.trans a.os,k.tape.trans a.tape,k.output.trans a.output,az a.size k.size,λb c d=>(k.block b (aR c a.size) d).trans (a.block b c d)⟩
theorem nh.free{base g c:Nat}{b:List An}{w:World}(e:nh base g c b w)(j:Nat):w.frozen? ⟨g,j,none⟩=false:=by
 obtain⟨n,d⟩:=e;rcases d with⟨d,_⟩|⟨m,cap,i,h,q,f,o,r,s,p⟩
 ·simp at d
 ·injection h with a k l;injection a with a;injection a with a _;subst a;simp[World.frozen?,f]
def dd(w:World)(g o:Nat)(v0 v1 v2 v3:Value):World:=(((w.setCell ⟨g,o,none⟩ v0).setCell ⟨g,o+1,none⟩ v1).setCell ⟨g,o+2,none⟩ v2).setCell ⟨g,o+3,none⟩ v3
def jy(w:World)(g o:Nat)(x:Nd):World:=dd w g o (ab x.1.1) (ab x.1.2.1) (af x.1.2.2) (ae x.2.1 x.2.2.1 x.2.2.2)
theorem jr{w:World}{base e size g L c:Nat}{xs:List Value}(h:w.ownsRow base e size (ae (some ⟨g,0,none⟩) L c) L xs)(j:Nat)(u:Value):(w.setCell ⟨g,j,none⟩ u).ownsRow base e size (ae (some ⟨g,0,none⟩) L c) L (xs.set j u):=by
 obtain⟨i,b⟩:=h;refine⟨by simpa using i,?_⟩;rcases b with⟨b,_⟩|⟨s,cap,d,p,m,n,k,o,q,l⟩
 ·simp at b
 ·injection p with a r f;injection a with a;injection a with a _;subst a f;refine ai ⟨g,c,d.setIfInBounds j u,rfl,m,?_,k,o,by simpa using q,?_⟩
  ·simp[World.setCell,bJ,n]
  ·rw[<-l];simp[List.take_set]
theorem th:(l:List Nd)->(i:Nat)->(x:Nd)->i<l.length-> ((((cC l).set (i*4) (ab x.1.1)).set (i*4+1) (ab x.1.2.1)).set (i*4+2) (af x.1.2.2)).set (i*4+3) (ae x.2.1 x.2.2.1 x.2.2.2)=cC (l.set i x)
 | [],i,x,h=>by simp at h
 | y::l,0,x,_=>by simp[cC,vv]
 | y::l,i+1,x,h=>by
  have ih:=th l i x (by simpa using h);have e:cC (y::l)=vv y++cC l:=rfl;have b:cC ((y::l).set (i+1) x)=vv y++cC (l.set i x):=rfl;have a:(vv y).length=4:=rfl;rw[e,b,<-ih];rw[iz _ _ (by rw[a];omega),iz _ _ (by rw[a];omega),iz _ _ (by rw[a];omega),iz _ _ (by rw[a];omega),a];rw[show (i+1)*4-4=i*4 by omega,show (i+1)*4+1-4=i*4+1 by omega,show (i+1)*4+2-4=i*4+2 by omega,show (i+1)*4+3-4=i*4+3 by omega]
theorem nh.put{base g c:Nat}{b:List An}{w:World}(d:nh base g c b w)(i:Nat)(t:An)(e:i<b.length):nh base g c (b.set i t) (jy w g (i*4) (tf t)):=by
 have a:=jr (jr (jr (jr d (i*4) (ab (tf t).1.1)) (i*4+1) (ab (tf t).1.2.1)) (i*4+2) (af (tf t).1.2.2)) (i*4+3) (.slice (tf t).2.1 (tf t).2.2.1 (tf t).2.2.2);unfold fU at a;rw[th (b.map tf) i (tf t) (by simpa using e)]at a;unfold nh fU;rw[List.map_set,List.length_set];exact a
theorem aX{w:World}{g b o:Nat}(c:b≠g)(v0 v1 v2 v3:Value):(dd w g o v0 v1 v2 v3).heap[b]?=w.heap[b]? :=by
 have d:g≠b:=λa=>c a.symm;simp[dd,World.setCell,bJ,d]
theorem br{w:World}{g o:Nat}(v0 v1 v2 v3:Value):(dd w g o v0 v1 v2 v3).heap.size=w.heap.size:=by simp[dd,World.setCell]
theorem DW{w:World}{g o:Nat}(v0 v1 v2 v3:Value):w.grownBy (dd w g o v0 v1 v2 v3) (some g):=
 ⟨rfl,rfl,rfl,dA (br _ _ _ _).symm,λk _ b=>aX (λa=>b (by rw[a])) _ _ _ _⟩
theorem EN{w w':World}{v0 v1 v2 v3:Value}{t:TypeId}(c:Below (w.alloc (.cells #[v0,v1,v2,v3] t)).heap.size (w.alloc (.cells #[v0,v1,v2,v3] t)) w'):(w'.cell? ⟨w.heap.size,0,none⟩=some v0/\w'.cell? ⟨w.heap.size,1,none⟩=some v1/\w'.cell? ⟨w.heap.size,2,none⟩=some v2/\w'.cell? ⟨w.heap.size,3,none⟩=some v3)/\ (w'.frozen? ⟨w.heap.size,0,none⟩=false/\w'.frozen? ⟨w.heap.size,1,none⟩=false/\w'.frozen? ⟨w.heap.size,2,none⟩=false/\w'.frozen? ⟨w.heap.size,3,none⟩=false):=by
 have a:=λo=>c.cell (p:=⟨w.heap.size,o,none⟩) (by simp);have b:=λo=>c.frozen (p:=⟨w.heap.size,o,none⟩) (by simp);exact⟨⟨(a 0).trans (by simp[go_sem]),(a 1).trans (by simp[go_sem]),(a 2).trans (by simp[go_sem]),(a 3).trans (by simp[go_sem])⟩,(b 0).trans (by simp[go_sem]),(b 1).trans (by simp[go_sem]),(b 2).trans (by simp[go_sem]),(b 3).trans (by simp[go_sem])⟩
theorem nW{w1 w2:World}{q:Nat}{c d e f:Value}(b:q<w1.heap.size)(l:aj w1 w2)(k:w1.cell? ⟨q,0,none⟩=some c/\w1.cell? ⟨q,1,none⟩=some d/\w1.cell? ⟨q,2,none⟩=some e/\w1.cell? ⟨q,3,none⟩=some f):w2.cell? ⟨q,0,none⟩=some c/\w2.cell? ⟨q,1,none⟩=some d/\w2.cell? ⟨q,2,none⟩=some e/\w2.cell? ⟨q,3,none⟩=some f:=by
 obtain⟨g,h,i,j⟩:=k;have a:=aq l;exact⟨(a _ _ b).trans g,(a _ _ b).trans h,(a _ _ b).trans i,(a _ _ b).trans j⟩
def eQ(base g c:Nat)(o:Option (List An))(w:World)(e:Ending)(w':World):Prop:=
 e=.returned (.bool o.isSome)/\w.grownBy w' (some g)/\∀b,o=some b->nh base g c b w'
def CK(B:Nat)(w:World)(b:List An):Prop:=b.length=4/\∀y∈b,FJ B w y/\aD y
theorem FJ.below{B:Nat}{w w':World}(a:Below B w w'){x:An}(k:FJ B w x):FJ B w' x:=In.below a k
theorem CK.below{B:Nat}{w w':World}(c:Below B w w'){b:List An}(k:CK B w b):CK B w' b:=⟨k.1,λy a=>⟨(k.2 y a).1.below c,(k.2 y a).2⟩⟩
theorem CK.fit{B:Nat}{w:World}{b a:List An}(k:CK B w b){n m:Nat}{p:Tm n}{t:Tm m}(f:In B w m t)(e:aD ⟨m,t⟩)(d:hU n p m t b=some a):CK B w a:=
 kY (λc=>FJ B w c/\aD c) (Ha (Ko B w) aV) n p m t ⟨f,e⟩ b a k d
def NJ(n:Nat):Prop:=∀(p:Tm n)(m:Nat)(t:Tm m)(b:List An)(base g c B:Nat)(w:World),In B w n p->In B w m t->aD ⟨n,p⟩->aD ⟨m,t⟩->CK B w b->B<=base->nh base g c b w->
 ak 185 #[ae (some ⟨g,0,none⟩) 4 c,dq n p,dq m t] w (eQ base g c (hU n p m t b) w)
theorem iY{c β:Type}(f:c->β->Bool):(p:List c)->(q:List β)->(x:c)->(y:β)->aB f p q=true->f x y=true->aB f (p++ [x]) (q++ [y])=true
 | [],[],x,y,_,h=>by simp[aB,h]
 | [],_::_,_,_,h,_=>by simp[aB]at h
 | _::_,[],_,_,h,_=>by simp[aB]at h
 | a::p,b::q,x,y,h,k=>by
  simp only[aB,aG,eG]at h ⊢;exact⟨h.1,iY f p q x y h.2 k⟩
theorem cI{c β:Type}(f:c->β->Bool):(p:List c)->(q:List β)->aB f p q=true->p.length=q.length
 | [],[],_=>rfl
 | [],_::_,h=>by simp[aB]at h
 | _::_,[],h=>by simp[aB]at h
 | a::p,b::q,h=>by
  simp only[aB,aG]at h;simp[cI f p q h.2]
def zA:An:=⟨1,((0,0,.empty),(none,0),[])⟩
theorem GO(n:Nat):(madeCells #[ab 0,ab 0,af .empty,ae none 0 0] (n*4)).toList=fU (List.replicate n zA):=by
 apply List.ext_getElem?;intro b;by_cases e:b<n*4
 ·obtain⟨k,a,f,rfl⟩:∃k a,a<4/\b=k*4+a:=⟨b / 4,b % 4,Nat.mod_lt _ (by decide),by omega⟩;have g:k<n:=by omega
  have c:(fU (List.replicate n zA))[k*4+a]?=(vv (tf zA))[a]? :=iU _ k (tf zA) (by simp[g]) a f;rw[c];have d:(madeCells #[ab 0,ab 0,af .empty,ae none 0 0] (n*4))[k*4+a]?=some ((#[ab 0,ab 0,af .empty,ae none 0 0]:Array Value)[(k*4+a) % 4]!):=by
   simp[madeCells,e]
  rw[mO,d,show (k*4+a) % 4=a by omega];have:a=0\/a=1\/a=2\/a=3:=by omega
  rcases this with rfl|rfl|rfl|rfl<;>rfl
 ·rw[eI (by simp[size_madeCells];omega),eI (by rw[kV];simp;omega)]
def uk(n:Nat)(p:List (Tm n))(len g k:Nat)(l:List (Tm n))(wr:World):Prop:=
 l.length=k/\nh g g len (l.map (λe=>(⟨n,e⟩:An))++List.replicate (len-k) zA) wr/\(∀a∈l,In wr.heap.size wr n a/\ch (λd=>g<d) n a)/\aB (λc b=>ax n c n b) l (p.take k)=true
theorem uk.step{n:Nat}{p:List (Tm n)}{len g k:Nat}{l:List (Tm n)}{wr w1:World}(j:uk n p len g k l wr)(w:k<len)(x:Tm n)(u:p[k]?=some x)(c:aj wr w1)(y:Tm n)(v:In w1.heap.size w1 n y)(h:ch (λq=>g<q) n y)(s:ax n y n x=true):uk n p len g (k+1) (l++ [y]) (jy w1 g (k*4) (gj n y)):=by
 obtain⟨e,m,b,o⟩:=j;have f:=(m.below c).put k ⟨n,y⟩ (by simp;omega);have i:(l.map (λx=>(⟨n,x⟩:An))++List.replicate (len-k) zA).set k ⟨n,y⟩=(l++ [y]).map (λx=>(⟨n,x⟩:An))++List.replicate (len-(k+1)) zA:=by
  rw[iz _ _ (by simp;omega)];have:len-k=(len-(k+1))+1:=by omega
  rw[this,List.replicate_succ];simp[e]
 rw[i]at f;refine⟨by simp[e],f,?_,?_⟩
 ·intro d a;have t:(jy w1 g (k*4) (gj n y)).heap.size=w1.heap.size:=br _ _ _ _;rw[t];rcases dl.1 a with a|a
  ·exact⟨In.off (λq r=>aX (by omega) _ _ _ _) (b d a).2 (((b d a).1.below c).mono c.size),(b d a).2⟩
  ·simp only[dN]at a;subst a;exact⟨In.off (λq r=>aX (by omega) _ _ _ _) h v,h⟩
 ·rw[du,u];exact iY _ _ _ _ _ o s
def gL(n:Nat)(p:List (Tm n))(w w':World)(a:Option Addr)(c:Nat)(l:List (Tm n)):Prop:=
 aj w w'/\l.length=p.length/\l.length<=c/\c<=maxLen/\aB (λa b=>ax n a n b) l p=true/\
 (l=[]\/∃b o,a=some ⟨b,o,none⟩/\(w.heap.size<=b/\o=0/\(∀g,w'.frozen? ⟨b,g,none⟩=false)/\∀d∈l,ch (λe=>e≠b) n d)/\b<w'.heap.size/\∀(f:Nat)(d:Tm n),l[f]?=some d->dC w' b (o+f*4) n d/\In w'.heap.size w' n d/\ch (λe=>w.heap.size<=e) n d)
theorem uk.done{n:Nat}{p:List (Tm n)}{len k:Nat}{l:List (Tm n)}{w wr:World}(f:uk n p len w.heap.size k l wr)(u:p.length=len)(j:k=len)(g:aj w wr)(m:len<=maxLen):gL n p w wr (some ⟨w.heap.size,0,none⟩) len l:=by
 obtain⟨t,c,d,e⟩:=f;subst j;rw[bA (by omega)]at e;rw[gX,mV,eF]at c;refine⟨g,by omega,by omega,m,e,ai ⟨w.heap.size,0,rfl,⟨am _,rfl,λr=>c.free r,λb a=>(d b a).2.mono λs o=>by omega⟩,c.lt.2,λq b a=>⟨?_,(d b (aJ a)).1,(d b (aJ a)).2.mono λs o=>by omega⟩⟩⟩;have h:=c.cells q ⟨n,b⟩ (by simp[a]);have i:=(d b (aJ a)).1;cases n with
 | zero=>exact i.elim
 | succ n=>
  rw[cX];exact h
def PB(n:Nat):Prop:=∀(x:Tm n)(B:Nat)(w:World),In B w n x->B<=w.heap.size->aD ⟨n,x⟩->
 ak 56 #[dq n x] w λe w'=>∃y:Tm n,e=.returned (dq n y)/\Hid (aj w w'/\In w'.heap.size w' n y/\ch (λq=>w.heap.size<=q) n y/\ax n y n x=true)
end Go.Proofs.YtmmahddlcldmiaaGreat
