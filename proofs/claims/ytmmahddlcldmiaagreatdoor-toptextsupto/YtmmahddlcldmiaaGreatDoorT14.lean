/- Proved here: plain facts and contracts. No condition but what each names. -/
import Derived.Test.YtmmahddlcldmiaaGreatDoorT13
namespace Go.Proofs.YtmmahddlcldmiaaGreatDoor
open Go.RowKit Go.Maps Go.Proofs.Tryz
open Go.RowKit
set_option maxHeartbeats 4000000
set_option maxRecDepth 100000
theorem Mq(w:World)(a:Value):iB w.heap.size (w.heap.size+1) a ([],[]) (λb=>w.heap.size<=b) ((w.alloc (.map #[] 0)).alloc (.cells #[a,ae none 0 0,.map (some w.heap.size)] 292)):=by
 have e:=py w Tryz.prog 3 (plainElem (H:=Unit) Tryz.prog 3);have es:∀o,(w.alloc o).heap.size=w.heap.size+1:=λo=>by simp
 have c:=aE (w.alloc (.map #[] 0)) (.cells #[a,ae none 0 0,.map (some w.heap.size)] 292);rw[es]at c;exact⟨ae none 0 0,w.heap.size,.map [],c,eH _ _ _ _,e.alloc _,LH,by omega,λb d=>by simp[Value.ownBlock]at d,ak _⟩
def kP(R:List Wd×List Wd×cR)(len g:Nat)(tv:Value)(w w':World):Prop:=
 aj w w'/\w'.ownsRow w.heap.size 154 2 tv R.2.1.length (aX R.2.1)/\w'.ownsRow g 154 2 (ae (some ⟨g,0,none⟩) len len) len (aX R.1)/\w.heap.size<=g/\tv.ownBlock≠some g
theorem zP(R:List Wd×List Wd×cR)(c:Value)(d:Option Addr)(L f:Nat)(a:Option Addr)(len pc:Nat)(w:World)(i:c=ae d L f)(b:Hid (am 202 #[.pointer (some ⟨w.heap.size+1,0,none⟩),ae a len pc] ((w.alloc (.map #[] 0)).alloc (.cells #[ae d L f,ae none 0 0,.map (some w.heap.size)] 292)) λe w'=>∃g tv,e=.returned (ae (some ⟨g,0,none⟩) len len)/\w'.cell? ⟨w.heap.size+1,1,none⟩=some tv/\Hid (kP R len g tv w w'))):am 195 #[c,ae a len pc] w λe w'=>∃g tv,e=.returned (.tuple #[tv,ae (some ⟨g,0,none⟩) len len])/\Hid (kP R len g tv w w'):=by
 subst i;have j:= @run_makeMap Tryz.prog;go_enter func195,ntmps195;go_wp2_with fail;refine b.mono ?_;rintro e l ⟨g,tv,rfl,k,h⟩;clear b j;go_wp2_with fail;exact av (v:=.tuple #[tv,ae (some ⟨g,0,none⟩) len len]) (by simp[results,results195,go_sem]) rfl ⟨g,tv,rfl,h⟩
theorem B7(ws:List Wd)(nm:List ByteArray)(n:Nat)(vs:List Wd)(p:List (Tm n))(q:Nat)(d:Value)(a:Option Addr)(pc:Nat)(w:World)(k:w.ownsRow q 154 2 d ws.length (aX ws))(G:gD ws nm n vs p)(F:∀y∈p,aD ⟨n,y⟩)(H:ws.length<=100000)(B:vs.length<=100000)(I:(p.map λy=>1+sz n y).sum<=90000)(D:(p.flatMap λy=>ax n y).length<=90000)(h:eN w vs a)(E:∀b o,a=some ⟨b,o,none⟩->b<w.heap.size):am 195 #[d,ae a vs.length pc] w λe w'=>∃g tv,e=.returned (.tuple #[tv,ae (some ⟨g,0,none⟩) vs.length vs.length])/\Hid (kP (gK (jI ws n) vs ([],[])) vs.length g tv w w'):=by
 obtain⟨l,m,r⟩:∃l m,d=ae l ws.length m:=by
  rcases k.2 with⟨e,x⟩|⟨g,c,R,e,_⟩
  ·exact⟨none,0,by rw[e,x]⟩
  ·exact⟨_,c,e⟩
 refine zP _ d l ws.length m a vs.length pc w r ?_;have f:aj w ((w.alloc (.map #[] 0)).alloc (.cells #[d,ae none 0 0,.map (some w.heap.size)] 292)):=((ap _ _).alloc (ak _) _).alloc (by simp) _;have z:=Mq w d;have S:((w.alloc (.map #[] 0)).alloc (.cells #[d,ae none 0 0,.map (some w.heap.size)] 292)).heap.size=w.heap.size+2:=by simp
 rw[<-r];generalize (w.alloc (.map #[] 0)).alloc (.cells #[d,ae none 0 0,.map (some w.heap.size)] 292)=wA at*;have A:eN wA vs a:=by
  rcases h with h|⟨b,o,e,j,h⟩
  ·exact ah h
  ·exact ai ⟨b,o,e,by omega,λt u s=>⟨(ar f b _ j).trans (h t u s).1,(ar f b _ j).trans (h t u s).2⟩⟩
 refine(sX ws nm n (MW ws nm n) vs p w.heap.size (w.heap.size+1) q d ([],[]) _ a pc wA z (dS k f) (λb e C=>by have:=(k.lt b e).2;omega) (by omega) G F H B (by simpa using I) (by simpa using D) A ?_).mono ?_
 ·intro b o e C;have:=E b o e;omega
 ·rintro e w' ⟨g,rfl,v⟩;obtain⟨Q,M,i,X,N,Y,O⟩:=v;obtain⟨tv,Z,P,J,K,T,U,V,L,W⟩:=M;refine⟨g,tv,rfl,J.cells.1.2.1,⟨?_,?_,?_,?_,?_⟩,K,O,by omega,λe=>N (L g e)⟩
  ·exact i.os.trans f.os
  ·exact i.tape.trans f.tape
  ·exact i.output.trans f.output
  ·have:=i.size;omega
  ·intro b j;exact(i.block b (by omega) (by omega)).trans (f.block b j)
theorem AY{base:Nat}{c:cu}{room:Int}{ws:List Wd}{nm:List ByteArray}{M:Nat->Prop}{R:List Wd×List Wd×cR}{len g:Nat}{tv:Value}{w w1 w2:World}(n:dK base c room ws nm M w)(i:aj w w1)(r:kP R len g tv w1 w2)(z:base<=w.heap.size):lU base c room R.2.1 nm M w (w2.setCell ⟨c.b,c.o+1,none⟩ tv):=by
 obtain⟨v,l,A,B,C⟩:=r;have s:=i.size;have j:=i.trans (v.mono s);obtain⟨D,t,u,e,x,f,h,y,p,q⟩:=n.later j;have k:=bm w2 c.b (c.o+1) tv;have m:∀b,tv.ownBlock=some b->w1.heap.size<=b:=λb a=>(l.lt b a).1;refine⟨⟨tv,t,u,e.set1 tv,dV (rF l (by omega)) k (λb a d=>?_),f.kept k (λb a d=>?_) (λb a d=>?_),ah h.1,λb a=>ai (by have:=m b a;omega),λb a=>ah (p b a).1,λb a=>ah (q b a).1⟩,(aY j M).trans k ?_⟩
 ·subst d;have:=m _ a;have:=h.2;omega
 ·subst d;exact ny f.1 e (by decide) a
 ·subst d;exact ud f e a
 ·rintro b _ rfl;exact h.1
theorem yW(R:List Wd×List Wd×cR)(d:cu)(n:Option Addr)(L q:Nat)(a:Option Addr)(len pc:Nat)(w:World)(j:d.b<w.heap.size)(i:w.cell? ⟨d.b,d.o+1,none⟩=some (ae n L q))(f1:w.frozen? ⟨d.b,d.o+1,none⟩=false)(k:Hid (am 194 #[.pointer (some ⟨d.b,d.o,none⟩),ae a len pc] w λe w'=>e=.returned (.bool true)/\aj w w'))(l:Hid (∀w1,aj w w1->am 195 #[ae n L q,ae a len pc] w1 λe w'=>∃g tv,e=.returned (.tuple #[tv,ae (some ⟨g,0,none⟩) len len])/\Hid (kP R len g tv w1 w'))):am 184 #[.pointer (some ⟨d.b,d.o,none⟩),ae a len pc] w λe w'=>∃g tv w1 w2,e=.returned (.tuple #[ae (some ⟨g,0,none⟩) len len,ab 0])/\w'=w2.setCell ⟨d.b,d.o+1,none⟩ tv/\Hid (aj w w1/\kP R len g tv w1 w2):=by
 go_enter func184,ntmps184;go_wp2_with fail;refine k.mono ?_;rintro e w1 ⟨rfl,f⟩;have HB:=aq f;replace i:=(ar f d.b (d.o+1) j).trans i;replace f1:=(gF f d.b (d.o+1) j).trans f1;have m:d.b<w1.heap.size:=aR j f.size;clear f k;go_wp2_with fail;refine(l w1 HB).mono ?_;rintro e w2 ⟨g,tv,rfl,h⟩;obtain⟨p,r,rfl⟩:∃p r,tv=ae p R.2.1.length r:=by
  rcases h.out.2.1.2 with⟨e,s⟩|⟨g,c,t,e,_⟩
  ·exact⟨none,0,by rw[e,s]⟩
  ·exact⟨_,c,e⟩
 replace i:=(ar h.1 d.b (d.o+1) m).trans i;replace f1:=(gF h.1 d.b (d.o+1) m).trans f1;clear l;go_wp2_with fail
 go_ret2
 exact⟨g,_,w1,w2,rfl,rfl,HB,h⟩
theorem gD.mem{ws:List Wd}{nm:List ByteArray}{n:Nat}{l:List Wd}{p:List (Tm n)}(b:gD ws nm n l p){v:Wd}(e:v∈l):∃y∈p,dL ws nm n y v:=by
 obtain⟨a,c⟩:=cM e;have d:a<p.length:=by rw[<-b.1];exact(aO.1 c).1
 exact⟨p[a],jE _,b.2 a v p[a] c (aG d)⟩
def FT(g c:cR)(a b:Nat):Prop:=∀p,(p<a\/b<=p)->look c p=look g p
theorem Hm{d a C:List Wd}{b:Wd}(k:(a++b::C) <+:d):co d a.length C.length=C:=by
 obtain⟨c,rfl⟩:=k;unfold co;rw[show a++b::C++c=(a++ [b])++(C++c) by simp];rw[List.drop_left' (by simp),List.take_left' rfl]
theorem CL{w w1:World}{vs:List Wd}{a:Option Addr}(c:eN w vs a)(d:aj w w1):eN w1 vs a:=by
 rcases c with c|⟨b,o,i,e,c⟩
 ·exact ah c
 ·exact ai ⟨b,o,i,aR e d.size,λg h f=>⟨(ar d b _ e).trans (c g h f).1,(ar d b _ e).trans (c g h f).2⟩⟩
def EN(ws:List Wd)(nm:List ByteArray)(n:Nat)(vs:List Wd)(p:List (Tm n)):Prop:=
 gD ws nm n vs p/\(∀a∈p,aD ⟨n,a⟩)/\(∀a∈p,aK n a=true)/\(p.map λa=>1+sz n a).sum<=90000/\(p.flatMap λa=>ax n a).length<=90000/\vs.length<=1000
def jN(ws:List Wd)(n:Nat)(vs:List Wd):List Wd×List Wd×cR:=gK (jI ws n) vs ([],[])
theorem EN.all{ws:List Wd}{nm:List ByteArray}{n:Nat}{vs:List Wd}{p:List (Tm n)}(b:EN ws nm n vs p)(g:ws.length<=1000)(f:nm.length<=50000):vs.all (cI ws nm)=true/\∀v∈vs,dt v.2:=by
 have key:∀v∈vs,cI ws nm v=true/\dt v.2:=λv a=>by
  obtain⟨d,c,e⟩:=b.1.mem a;exact Cp e (b.2.1 d c) (b.2.2.1 d c) (by omega) (by omega)
 exact⟨bZ.2 λv a=>(key v a).1,λv a=>(key v a).2⟩
def yC(base:Nat)(a:cu)(room:Int)(R:List Wd×List Wd×cR)(nm:List ByteArray)(M:Nat->Prop)(g:Nat)(w w':World):Prop:=
 dK base a room R.2.1 nm (λb=>(M b\/w.heap.size<=b)/\b≠g) w'/\bV M w w'/\eN w' R.1 (some ⟨g,0,none⟩)/\w.heap.size<=g/\g<w'.heap.size/\∃len,w'.ownsRow g 154 2 (ae (some ⟨g,0,none⟩) len len) len (aX R.1)
theorem yy{w:World}{g base len:Nat}{vs:List Wd}(a:w.ownsRow base 154 2 (ae (some ⟨g,0,none⟩) len len) len (aX vs)):eN w vs (some ⟨g,0,none⟩)/\g<w.heap.size:=by
 refine⟨ai ⟨g,0,rfl,(a.lt g rfl).2,λc d b=>?_⟩,(a.lt g rfl).2⟩;have:=iY a c d b;rw[dc];exact this
theorem JD{base:Nat}{d:cu}{room:Int}{ws:List Wd}{nm:List ByteArray}{M:Nat->Prop}{R:List Wd×List Wd×cR}{len g:Nat}{tv:Value}{w w1 w2:World}(j:dK base d room ws nm M w)(h:aj w w1)(p:kP R len g tv w1 w2)(t:base<=w.heap.size):yC base d room R nm M g w (w2.setCell ⟨d.b,d.o+1,none⟩ tv):=by
 have u:=AY j h p t;obtain⟨z,q,i,F,B⟩:=p;have v:=h.size;have s:=h.trans (z.mono v);obtain⟨G,x,y,e,C,f,l,D,m,n⟩:=j.later s;have k:=bm w2 d.b (d.o+1) tv;have r:∀b,tv.ownBlock=some b->w1.heap.size<=b:=λb a=>(q.lt b a).1;have E:d.b<w.heap.size:=l.2;refine⟨⟨tv,x,y,e.set1 tv,dV (rF q (by omega)) k (λb a c=>?_),f.kept k (λb a c=>?_) (λb a c=>?_),⟨ah l.1,by omega⟩,λb a=>⟨ai (by have:=r b a;omega),λc=>B (by rw[a,c])⟩,λb a=>⟨ah (m b a).1,by have:=(m b a).2;omega⟩,λb a=>⟨ah (n b a).1,by have:=(n b a).2;omega⟩⟩,u.2,?_,by omega,?_,?_⟩
 ·subst c;have:=r _ a;omega
 ·subst c;exact ny f.1 e (by decide) a
 ·subst c;exact ud f e a
 ·have A:=dV i k (λb a c=>by
    subst c;simp only[Value.ownBlock]at a;have:=aw a
    omega)
  exact(yy A).1
 ·have:=(yy i).2;simpa [World.setCell]using this
 ·exact⟨len,dV i k (λb a c=>by
    subst c;simp only[Value.ownBlock]at a;have:=aw a
    omega)⟩
theorem zq(n:Nat)(p:List (Tm n))(vs:List Wd)(a:Option Addr)(pc base:Nat)(f:cu)(room:Int)(ws:List Wd)(nm:List ByteArray)(M:Nat->Prop)(w:World)(j:dK base f room ws nm M w)(d:EN ws nm n vs p)(r:eN w vs a)(C:∀b o,a=some ⟨b,o,none⟩->b<w.heap.size)(z:base<=w.heap.size)(E:ws.length<=1000)(D:nm.length<=50000):am 184 #[.pointer (some ⟨f.b,f.o,none⟩),ae a vs.length pc] w λe w'=>∃g,e=.returned (.tuple #[ae (some ⟨g,0,none⟩) vs.length vs.length,ab 0])/\Hid (yC base f room (jN ws n vs) nm M g w w'):=by
 obtain⟨y,B⟩:=d.all E D;obtain⟨t,P,Q,m,q,J,K,L,N,O⟩:=id j;obtain⟨⟨F,v,G,H⟩,A⟩:=m.cells;obtain⟨h,i,rfl⟩:∃h i,t=ae h ws.length i:=by
  rcases q.2 with⟨e,x⟩|⟨g,c,I,e,_⟩
  ·exact⟨none,0,by rw[e,x]⟩
  ·exact⟨_,c,e⟩
 refine(yW (jN ws n vs) f h ws.length i a vs.length pc w m.lt v (A _) ?_ ?_).mono ?_
 ·have s:=yM base f room ws nm M vs a vs.length pc w j (by omega) rfl (by have:=d.2.2.2.2.2;omega) r B;rw[y]at s;exact s
 ·intro u k;refine B7 ws nm n vs p base (ae h ws.length i) a pc u (dS q k) d.1 d.2.1 (by omega) (by have:=d.2.2.2.2.2;omega) d.2.2.2.1 d.2.2.2.2.1 (CL r k) ?_;intro b o e;exact aR (C b o e) k.size
 ·rintro e w' ⟨g,t,u,R,rfl,rfl,l⟩;exact⟨g,rfl,JD j l.1 l.2 z⟩
def oX(ws:List Wd):Nat->Wd->List Nat
 | 0,_=> []
 | n+1,v=>if v.1=4 then
    match ws[v.2.toNat]? with
    | some a=>v.2.toNat::(co ws v.2.toNat a.2.toNat).flatMap (oX ws n)
    | none=> []
  else []
theorem mA{ws:List Wd}{n:Nat}{v:Wd}(a:v.1≠4):oX ws n v=[]:=by
 cases n with
 | zero=>rfl
 | succ n=>simp[oX,a]
theorem rH{ws:List Wd}{n p m:Nat}(a:ws[p]?=some (0,(m:Int))):oX ws (n+1) (4,(p:Int))=p::(co ws p m).flatMap (oX ws n):=by
 simp[oX,a]
theorem xM{nm:List ByteArray}{s:ByteArray}(a:s∈nm):eK nm s=nm:=by
 unfold eK;rw[if_pos ((zC nm s).2 a)]
theorem AZ{ws:List Wd}{nm:List ByteArray}{n:Nat}(ih:∀(x:Tm n)(v:Wd)(S:List Wd×cR),dL ws nm n x v->(oX ws n v).Nodup->(∀p∈oX ws n v,look S.2 p=none)->((jI ws n v S).1=(aV n x S.1 nm).1/\(jI ws n v S).2.1=(aV n x S.1 nm).2.1/\(aV n x S.1 nm).2.2=nm)/\∀p,look (jI ws n v S).2.2 p=none ↔ look S.2 p=none/\p∉oX ws n v):(us:List Wd)->(ys:List (Tm n))->gD ws nm n us ys->(S:List Wd×cR)->(us.flatMap (oX ws n)).Nodup->(∀p∈us.flatMap (oX ws n),look S.2 p=none)-> ((gK (jI ws n) us S).1=(bM (aV n) ys S.1 nm).1/\(gK (jI ws n) us S).2.1=(bM (aV n) ys S.1 nm).2.1/\(bM (aV n) ys S.1 nm).2.2=nm)/\∀p,look (gK (jI ws n) us S).2.2 p=none ↔ look S.2 p=none/\p∉us.flatMap (oX ws n)
 | us,ys,a,S,hn,hl=>by
  induction us generalizing ys S with
  | nil=>
   obtain rfl:ys=[]:=by have:=a.1;cases ys with|nil=>rfl|cons e l=>simp at this
   simp[gK,bM]
  | cons v us z=>
   cases ys with
   | nil=>have:=a.1;simp at this
   | cons d ys=>
    have r:dL ws nm n d v:=a.2 0 v d (by simp) (by simp);have w:gD ws nm n us ys:=⟨by have:=a.1;simpa using this,λy e b s t=>a.2 (y+1) e b (by simpa using s) (by simpa using t)⟩;rw[bz]at hn hl;obtain⟨A,B,C⟩:=fp.1 hn;obtain⟨⟨g,h,i⟩,f⟩:=ih d v S r A (λp c=>hl p (List.mem_append_left _ c));have u:∀p∈us.flatMap (oX ws n),look (jI ws n v S).2.2 p=none:=λp c=>(f p).2 ⟨hl p (List.mem_append_right _ c),λq=>C p q p c rfl⟩;obtain⟨⟨j,k,m⟩,o⟩:=z ys w (jI ws n v S).2 B u;simp only[gK,bM];rw[i,<-h];refine⟨⟨by rw[g,j],k,m⟩,λp=>?_⟩;rw[o p,f p,bz,dp,not_or,and_assoc]
theorem E0{ws:List Wd}{nm:List ByteArray}(g:nm.Nodup):(n:Nat)->(x:Tm n)->(v:Wd)->(S:List Wd×cR)->dL ws nm n x v->(oX ws n v).Nodup->(∀p∈oX ws n v,look S.2 p=none)-> ((jI ws n v S).1=(aV n x S.1 nm).1/\(jI ws n v S).2.1=(aV n x S.1 nm).2.1/\(aV n x S.1 nm).2.2=nm)/\∀p,look (jI ws n v S).2.2 p=none ↔ look S.2 p=none/\p∉oX ws n v
 | 0,_,_,_,h,_,_=>h.elim
 | n+1,x,v,S,h,hn,hl=>by
  by_cases b:x.1.1=4
  ·obtain⟨p,rfl,i,u,s⟩:=jz h b;rw[rH i]at hn hl ⊢;have o:=hl p (by simp);rw[yZ o i];have r:=mS.1 hn;obtain⟨⟨k,f,l⟩,m⟩:=AZ (λx v S=>E0 g n x v S) (co ws p x.2.2.length) x.2.2 s S r.2 (λq c=>hl q (bX _ c));have e:aV (n+1) x S.1 nm=((4,((bM (aV n) x.2.2 S.1 nm).2.1.length:Int)),(bM (aV n) x.2.2 S.1 nm).2.1++(0,(x.2.2.length:Int))::(bM (aV n) x.2.2 S.1 nm).1,(bM (aV n) x.2.2 S.1 nm).2.2):=by
    simp only[aV];rw[if_neg (by omega),if_pos b]
   rw[e];refine⟨⟨by rw[f],by rw[k,f],l⟩,λq=>?_⟩;by_cases c:q=p
   ·subst c;rw[sC];simp
   ·rw[qp _ _ c,m q];simp[c]
  ·have j:=iM h b;rw[uP j,mA j];refine⟨⟨?_,?_,?_⟩,λq=>by simp⟩
   ·simp only[aV];by_cases a:x.1.1=2
    ·rw[if_pos a];obtain⟨t,rfl,d⟩:=h.1 a;rw[xM (aH d),BI g d]
    ·rw[if_neg a,if_neg b];exact h.2.2 a b
   ·simp only[aV];split
    ·rfl
    ·rfl
   ·simp only[aV];split
    ·rename_i a;obtain⟨t,rfl,d⟩:=h.1 a;exact xM (aH d)
    ·rfl
theorem DV{ws a:List Wd}(b:ws <+:a){p m:Nat}(c:p+1+m<=ws.length):co a p m=co ws p m:=by
 obtain⟨t,rfl⟩:=b;unfold co;rw[pj (by omega),gS (by rw[eX];omega)]
theorem M8{ws b:List Wd}(c:ws <+:b){p:Nat}{v:Wd}(a:ws[p]?=some v):b[p]?=some v:=by
 obtain⟨t,rfl⟩:=c;rw[dm (aO.1 a).1];exact a
theorem np{c e:Type}{f g:c->List e}:{l:List c}->(∀a∈l,f a=g a)->l.flatMap f=l.flatMap g
 | [],_=>rfl
 | a::l,h=>by rw[bz,bz,h a (by simp),np (l:=l) λb d=>h b (by simp[d])]
theorem rG{ws d:List Wd}{nm:List ByteArray}(b:ws <+:d):(n:Nat)->(x:Tm n)->(v:Wd)->dL ws nm n x v->oX d n v=oX ws n v
 | 0,_,_,h=>h.elim
 | n+1,x,v,h=>by
  by_cases a:x.1.1=4
  ·obtain⟨p,rfl,c,e,f⟩:=jz h a;rw[rH c,rH (M8 b c),DV b e];congr 1;refine np λj g=>?_;obtain⟨y,_,i⟩:=f.mem g;exact rG b n y j i
  ·rw[mA (iM h a),mA (iM h a)]
theorem zH{ws:List Wd}{nm:List ByteArray}:(n:Nat)->(x:Tm n)->(v:Wd)->dL ws nm n x v->∀p∈oX ws n v,p<ws.length
 | 0,_,_,h,_,_=>h.elim
 | n+1,x,v,h,q,a=>by
  by_cases b:x.1.1=4
  ·obtain⟨p,rfl,c,i,d⟩:=jz h b;rw[rH c,ch,jG]at a;rcases a with rfl|⟨g,e,a⟩
   ·omega
   ·obtain⟨y,_,f⟩:=d.mem e;exact zH n y g f q a
  ·rw[mA (iM h b)]at a;cases a
theorem vo{n:Nat}(ih:∀(x:Tm n)(ws:List Wd)(nm:List ByteArray),aD ⟨n,x⟩->(oX (aV n x ws nm).2.1 n (aV n x ws nm).1).Nodup/\∀p∈oX (aV n x ws nm).2.1 n (aV n x ws nm).1,ws.length<=p):(l:List (Tm n))->(ws:List Wd)->(nm:List ByteArray)->(∀y∈l,aD ⟨n,y⟩)->((bM (aV n) l ws nm).1.flatMap (oX (bM (aV n) l ws nm).2.1 n)).Nodup/\∀p∈(bM (aV n) l ws nm).1.flatMap (oX (bM (aV n) l ws nm).2.1 n),ws.length<=p
 | [],_,_,_=>by simp[bM]
 | y::l,ws,nm,hr=>by
  have f:=ih y ws nm (hr y (by simp));have g:=gL n y ws nm (hr y (by simp));have d:=vo ih l (aV n y ws nm).2.1 (aV n y ws nm).2.2 (λo m=>hr o (by simp[m]));have c:=(rm (λx ws nm=>mm n x ws nm) l (aV n y ws nm).2.1 (aV n y ws nm).2.2).1;have k:=rG c n y _ g;have j:=zH n y _ g;have q:=(mm n y ws nm).1.length_le;simp only[bM,bz];rw[k];refine⟨fp.2 ⟨f.1,d.1,λa h b i e=>?_⟩,λp c=>?_⟩
  ·have:=j a h;have:=d.2 b i;omega
  ·rcases dp.1 c with c|c
   ·exact f.2 p c
   ·have:=d.2 p c;omega
theorem zt:(n:Nat)->(x:Tm n)->(ws:List Wd)->(nm:List ByteArray)->aD ⟨n,x⟩->(oX (aV n x ws nm).2.1 n (aV n x ws nm).1).Nodup/\∀p∈oX (aV n x ws nm).2.1 n (aV n x ws nm).1,ws.length<=p
 | 0,_,_,_,h=>(dh h).elim
 | n+1,x,ws,nm,h=>by
  by_cases q:x.1.1=4
  ·have e:aV (n+1) x ws nm=((4,((bM (aV n) x.2.2 ws nm).2.1.length:Int)),(bM (aV n) x.2.2 ws nm).2.1++(0,(x.2.2.length:Int))::(bM (aV n) x.2.2 ws nm).1,(bM (aV n) x.2.2 ws nm).2.2):=by
     simp only[aV];rw[if_neg (by omega),if_pos q]
   have r:∀o∈x.2.2,aD ⟨n,o⟩:=λo B=>aU n x o h B;have k:=vo (λx ws nm l=>zt n x ws nm l) x.2.2 ws nm r;have A:=(rm (λx ws nm=>mm n x ws nm) x.2.2 ws nm).1.length_le;have s:=oh (λx ws nm l=>gL n x ws nm l) x.2.2 ws nm r;have v:=gM (aV n) x.2.2 ws nm;rw[e];generalize (bM (aV n) x.2.2 ws nm).2.1=c at*;generalize (bM (aV n) x.2.2 ws nm).1=d at*;generalize (bM (aV n) x.2.2 ws nm).2.2=D at*;have t:(c++(0,(x.2.2.length:Int))::d)[c.length]?=some (0,(x.2.2.length:Int)):=by simp
   have z:co (c++(0,(x.2.2.length:Int))::d) c.length x.2.2.length=d:=by rw[<-v];exact Hm (gz _)
   have y:d.flatMap (oX (c++(0,(x.2.2.length:Int))::d) n)=d.flatMap (oX c n):=np λm j=>by
    obtain⟨i,f⟩:=cM j;have u:=(aO.1 f).1;obtain⟨C,b,g⟩:=s i (x.2.2[i]'(by omega)) (aG _);rw[f]at b;injection b with b;subst b;exact rG (pt _ _) n _ m g
   have w:∀p∈d.flatMap (oX c n),p<c.length:=λp a=>by
    obtain⟨m,j,a⟩:=jG.1 a;obtain⟨i,f⟩:=cM j;have u:=(aO.1 f).1;obtain⟨C,b,g⟩:=s i (x.2.2[i]'(by omega)) (aG _);rw[f]at b;injection b with b;subst b;exact zH n _ m g p a
   simp only;rw[rH t,z,y];refine⟨mS.2 ⟨λa=>by have:=w _ a;omega,k.1⟩,λp a=>?_⟩;rcases ch.1 a with rfl|a
   ·exact A
   ·exact k.2 p a
  ·have g:=gL (n+1) x ws nm h;rw[mA (iM g q)];simp
theorem Bv(n:Nat):(l:List (Tm n))->(ws:List Wd)->(nm:List ByteArray)->((bM (aV n) l ws nm).2.1.length:Int)=ws.length+(l.map (sz n)).sum
 | [],_,_=>by simp[bM]
 | y::l,ws,nm=>by
  have a:=(iL n y ws nm).1;have b:=Bv n l (aV n y ws nm).2.1 (aV n y ws nm).2.2;simp only[bM,aM,bA];omega
theorem D9{ws:List Wd}{nm:List ByteArray}(d:nm.Nodup){n:Nat}{vs:List Wd}{p:List (Tm n)}(b:gD ws nm n vs p)(c:(vs.flatMap (oX ws n)).Nodup):(jN ws n vs).1=(bM (aV n) p [] nm).1/\(jN ws n vs).2.1=(bM (aV n) p [] nm).2.1/\(bM (aV n) p [] nm).2.2=nm:=
 (AZ (λf e a=>E0 d n f e a) vs p b ([],[]) c (λ_ _=>rfl)).1
def nL:ByteArray:=⟨#[99,111,100,101]⟩
def tV:ByteArray:=⟨#[98,101,104]⟩
def LW:ByteArray:=⟨#[111,110]⟩
def mJ:ByteArray:=⟨#[115,101,110,100]⟩
def iX:ByteArray:=⟨#[115,112,97,119,110]⟩
def mI:ByteArray:=⟨#[108,105,110,107]⟩
def lL:ByteArray:=⟨#[115,116,111,112]⟩
def eR(n:Nat)(x:Tm n):Bool:=(gg n x).1.1==0 && (gg n x).1.2.1==0 && (gg n x).1.2.2.toList.isEmpty && ((gg n x).2.2.1:Int)==0
def wL(s:ByteArray)(v:Int):Bool:=s.toList.isEmpty && v==0
def nN(n:Nat)(a:Ac n):Bool:=
 if a.1=1 then wL a.2.2.1 a.2.2.2
 else if a.1=2 then eR n a.2.1.1 && dF a.2.2.1 && decide (0<=a.2.2.2) && decide (a.2.2.2<4)
 else if a.1=3 then eR n a.2.1.2 && wL a.2.2.1 a.2.2.2
 else if a.1=4 then eR n a.2.1.1 && eR n a.2.1.2 && wL a.2.2.1 a.2.2.2
 else false
def tF(n:Nat)(c:Cl n):Bool:=decide ((c.2.2.length:Int)<=8) && c.2.2.all (nN n)
def wF(n:Nat)(b:Bh n):Bool:=dF b.1 && decide (1<=(b.2.2.length:Int)) && decide ((b.2.2.length:Int)<=6) && b.2.2.all (tF n)
def ky(n:Nat)(l:List (Bh n)):Bool:=decide (1<=(l.length:Int)) && decide ((l.length:Int)<=7) && l.all (wF n)
def aZ(s:ByteArray)(N:Nat):Tm (N+1):=((2,0,s),(none,0),[])
def b9(n:Nat)(a:Ac (n+1)):Tm (n+2):=
 if a.1=1 then cY (n+1) [aZ mJ n,a.2.1.1,a.2.1.2]
 else if a.1=2 then cY (n+1) [aZ iX n,aZ a.2.2.1 n,a.2.1.2,bR 5 a.2.2.2 n]
 else if a.1=3 then cY (n+1) [aZ mI n,a.2.1.1]
 else cY (n+1) [aZ lL n]
def dG(n:Nat)(c:Cl (n+1)):Tm (n+4):=
 cY (n+3) [aZ LW (n+2),aS (n+3) (n+1) c.1.1,aS (n+3) (n+1) c.1.2.1,cY (n+2) (c.2.2.map (b9 n)),aS (n+3) (n+1) c.1.2.2]
def dQ(n:Nat)(b:Bh (n+1)):Tm (n+5):=cY (n+4) (aZ tV (n+3)::aZ b.1 (n+3)::b.2.2.map (dG n))
def bK(n:Nat)(l:List (Bh (n+1))):Tm (n+6):=cY (n+5) (aZ nL (n+4)::l.map (dQ n))
def eQ{a b:Type}(R:a->b->Prop)(l:List a)(r:List b):Prop:=l.length=r.length/\∀(i:Nat)(x:a)(y:b),l[i]?=some x->r[i]?=some y->R x y
theorem eQ.nil{b c:Type}{R:b->c->Prop}:eQ R [] []:=⟨rfl,λi x y a=>by simp at a⟩
theorem eQ.snoc{g h:Type}{R:g->h->Prop}{l:List g}{r:List h}(d:eQ R l r){x:g}{y:h}(k:R x y):eQ R (l++ [x]) (r++ [y]):=by
 refine⟨by simp[d.1],λf j b a c=>?_⟩;by_cases i:f<l.length
 ·rw[dm i]at a;rw[dm (by rw[<-d.1];exact i)]at c;exact d.2 f j b a c
 ·rw[eC (by omega)]at a;rw[eC (by rw[<-d.1];omega)]at c;have e:f-l.length=0:=by
   by_cases e:f-l.length=0
   ·exact e
   ·rw[eD (by simp;omega)]at a;cases a
  rw[<-d.1,e]at c;rw[e]at a;simp at a c;rw[<-a,<-c];exact k
theorem eQ.tail{c d:Type}{R:c->d->Prop}{x:c}{y:d}{l:List c}{r:List d}(a:eQ R (x::l) (y::r)):R x y/\eQ R l r:=
 ⟨a.2 0 x y (by simp) (by simp),by simpa using a.1,λh e b f g=>a.2 (h+1) e b (by simpa using f) (by simpa using g)⟩
theorem eQ.all{a b:Type}{R:a->b->Prop}(f:a->Bool)(g:b->Bool)(c:∀x y,R x y->f x=g y):(l:List a)->(r:List b)->eQ R l r->l.all f=r.all g
 | [],[],_=>rfl
 | [],_::_,h=>by have:=h.1;simp at this
 | _::_,[],h=>by have:=h.1;simp at this
 | x::l,y::r,h=>by
  simp only[ip,c x y h.tail.1,eQ.all f g c l r h.tail.2]
theorem eQ.same{c d:Type}{R:c->d->Prop}{n m:Nat}(f:c->Tm n)(g:d->Tm m)(e:∀x y,R x y->ay n (f x) m (g y)=true):(l:List c)->(r:List d)->eQ R l r->aC (λa b=>ay n a m b) (l.map f) (r.map g)=true
 | [],[],_=>rfl
 | [],_::_,h=>by have:=h.1;simp at this
 | _::_,[],h=>by have:=h.1;simp at this
 | x::l,y::r,h=>by
  simp only[aM,aC,aA];exact⟨e x y h.tail.1,eQ.same f g e l r h.tail.2⟩
def CW(n:Nat)(a b:Ac n):Prop:=a.1=b.1/\ay n a.2.1.1 n b.2.1.1=true/\ay n a.2.1.2 n b.2.1.2=true/\a.2.2=b.2.2
def CS(n:Nat)(a b:Cl n):Prop:=(ay n a.1.1 n b.1.1=true/\ay n a.1.2.1 n b.1.2.1=true/\ay n a.1.2.2 n b.1.2.2=true)/\eQ (CW n) a.2.2 b.2.2
def yN(n:Nat)(a b:Bh n):Prop:=a.1=b.1/\eQ (CS n) a.2.2 b.2.2
theorem FF{n m:Nat}{x:Tm n}{y:Tm m}(a:ay n x m y=true):(gg n x).1=(gg m y).1/\(gg n x).2.2.1=(gg m y).2.2.1:=by
 cases n with
 | zero=>simp[ay]at a
 | succ n=>
  cases m with
  | zero=>simp[ay]at a
  | succ m=>
   have b:=bG a;have c:=cE _ _ _ b.2;simp only[gg,bw];exact⟨b.1,c⟩
theorem rJ{n m:Nat}{x:Tm n}{y:Tm m}(b:ay n x m y=true):eR n x=eR m y:=by
 have a:=FF b;simp only[eR,a.1,a.2]
theorem Pr{n:Nat}{a b:Ac n}(c:CW n a b):nN n a=nN n b:=by
 obtain⟨d,e,f,g⟩:=c;simp only[nN,d,g,rJ e,rJ f]
theorem Pt{n:Nat}{a b:Cl n}(c:CS n a b):tF n a=tF n b:=by
 simp only[tF,c.2.1,eQ.all (R:=CW n) (nN n) (nN n) (λ_ _ c=>Pr c) _ _ c.2]
theorem Ps{n:Nat}{a b:Bh n}(c:yN n a b):wF n a=wF n b:=by
 simp only[wF,c.1,c.2.1,eQ.all (R:=CS n) (tF n) (tF n) (λ_ _ c=>Pt c) _ _ c.2]
theorem KN{n:Nat}{l r:List (Bh n)}(a:eQ (yN n) l r):ky n l=ky n r:=by
 simp only[ky,a.1,eQ.all (R:=yN n) (wF n) (wF n) (λ_ _ a=>Ps a) _ _ a]
theorem dU(s:ByteArray)(N M:Nat):ay (N+1) (aZ s N) (M+1) (aZ s M)=true:=cV rfl rfl
theorem DD(k a:Int)(N M:Nat):ay (N+1) (bR k a N) (M+1) (bR k a M)=true:=cV rfl rfl
theorem gQ{N M:Nat}{l:List (Tm N)}{r:List (Tm M)}(c:aC (λa b=>ay N a M b) l r=true):ay (N+1) (cY N l) (M+1) (cY M r)=true:=cV rfl c
theorem mn:(N n:Nat)->n<=N->(x:Tm n)->ay n x n x=true->ay N (aS N n x) n x=true
 | _,0,_,_,h=>by simp[ay]at h
 | 0,n+1,h,_,_=>by omega
 | N+1,n+1,h,x,hr=>by
  have b:=(bG hr).2;refine cV rfl (iR _ _ _ λy c=>mn N n (by omega) y ?_);obtain⟨i,a⟩:=cM c;exact jx _ _ _ b i y y a a
theorem yg{n m:Nat}{x:Tm n}{y:Tm m}(a:ay n x m y=true):ay n x n x=true:=bH _ _ _ _ _ _ a (dJ _ _ _ _ a)
theorem Ed{n m:Nat}{x:Tm n}{y:Tm m}(a:ay n x m y=true):ay m y m y=true:=bH _ _ _ _ _ _ (dJ _ _ _ _ a) a
theorem oS{N n m:Nat}(c:n<=N)(b:m<=N){x:Tm n}{y:Tm m}(a:ay n x m y=true):ay N (aS N n x) N (aS N m y)=true:=
 bH _ _ _ _ _ _ (mn N n c x (yg a)) (bH _ _ _ _ _ _ a (dJ _ _ _ _ (mn N m b y (Ed a))))
theorem lF{B:Nat}{w:World}:{n:Nat}->{x:Tm n}->In B w n x->ay n x n x=true
 | 0,_,k=>k.elim
 | n+1,x,k=>by
  refine cV rfl (iS _ _ λy a=>?_);obtain⟨i,c⟩:=cM a;rcases k.2 with e|⟨b,o,_,_,d⟩
  ·rw[e]at a;cases a
  ·exact lF (d i y c).2
theorem Ji{n:Nat}{a b:Ac (n+1)}(e:CW (n+1) a b):ay (n+2) (b9 n a) (n+2) (b9 n b)=true:=by
 obtain⟨f,c,d,g⟩:=e;unfold b9;rw[f,g];split
 ·exact gQ (by simp[aC,dU,c,d])
 split
 ·exact gQ (by simp[aC,dU,DD,d])
 split
 ·exact gQ (by simp[aC,dU,c])
 ·exact gQ (by simp[aC,dU])
theorem Jz{n:Nat}{a b:Cl (n+1)}(c:CS (n+1) a b):ay (n+4) (dG n a) (n+4) (dG n b)=true:=by
 have d:=eQ.same (b9 n) (b9 n) (λ_ _ c=>Ji c) _ _ c.2;exact gQ (by simp only[aC,aA];exact⟨dU _ _ _,oS (by omega) (by omega) c.1.1,oS (by omega) (by omega) c.1.2.1,gQ d,oS (by omega) (by omega) c.1.2.2,trivial⟩)
theorem Jn{n:Nat}{a b:Bh (n+1)}(c:yN (n+1) a b):ay (n+5) (dQ n a) (n+5) (dQ n b)=true:=by
 have d:=eQ.same (dG n) (dG n) (λ_ _ c=>Jz c) _ _ c.2;refine gQ ?_;simp only[aC,aA];exact⟨dU _ _ _,by rw[c.1];exact dU _ _ _,d⟩
theorem KO{n:Nat}{l r:List (Bh (n+1))}(a:eQ (yN (n+1)) l r):ay (n+6) (bK n l) (n+6) (bK n r)=true:=by
 have b:=eQ.same (dQ n) (dQ n) (λ_ _ a=>Jn a) _ _ a;refine gQ ?_;simp only[aC,aA];exact⟨dU _ _ _,b⟩
theorem dE(k b:Int)(s:ByteArray)(a:Option Addr)(l c:Nat)(w:World):am 144 #[.agg #[ab k,ab b,af s,ae a l c]] w λe w'=>e=.returned (.bool (k==0 && b==0 && s.toList.isEmpty && (l:Int)==0))/\w'=w.alloc (.cells #[ab k,ab b,af s,ae a l c] 28):=by
 cases h1:k==0
 ·go_enter func144,ntmps144;go_wp2_with fail
  go_ret
  exact⟨rfl,rfl⟩
 cases h2:b==0
 ·go_enter func144,ntmps144;go_wp2_with fail
  go_ret
  exact⟨rfl,rfl⟩
 cases h3:s.toList.isEmpty
 ·go_enter func144,ntmps144;go_wp2_with fail
  go_ret
  exact⟨rfl,rfl⟩
 go_enter func144,ntmps144;go_wp2_with fail
 go_ret
 exact⟨rfl,rfl⟩
theorem qx(K t0 t1 a b v:Int)(t2 c s:ByteArray)(t3 d:Option Addr)(t4 t5 f g:Nat)(w:World):am 143 #[.agg #[ab K,ab t0,ab t1,af t2,ae t3 t4 t5,ab a,ab b,af c,ae d f g,af s,ab v]] w λe w'=>e=.returned (.bool (wL s v))/\w'=w.alloc (.cells #[ab K,ab t0,ab t1,af t2,ae t3 t4 t5,ab a,ab b,af c,ae d f g,af s,ab v] 208):=by
 unfold wL;cases h3:s.toList.isEmpty
 ·go_enter func143,ntmps143;go_wp2_with fail
  go_ret
  exact⟨rfl,rfl⟩
 go_enter func143,ntmps143;go_wp2_with fail
 go_ret
 exact⟨rfl,rfl⟩
theorem Dx(K t0 t1 o p v:Int)(t2 q s:ByteArray)(t3 t:Option Addr)(t4 t5 r u:Nat)(w:World)(m:s.size<=9223372036854775807)(h i l n:Bool)(a:Hid ((t0==0 && t1==0 && t2.toList.isEmpty && (t4:Int)==0)=h))(d:Hid ((o==0 && p==0 && q.toList.isEmpty && (r:Int)==0)=i))(j:Hid (wL s v=l))(f:Hid (dF s=n)):am 113 #[.agg #[ab K,ab t0,ab t1,af t2,ae t3 t4 t5,ab o,ab p,af q,ae t r u,af s,ab v]] w λe w'=>e=.returned (.bool (if K=1 then l else if K=2 then h && n && decide (0<=v) && decide (v<4)else if K=3 then i && l else if K=4 then h && i && l else false))/\aj w w':=by
 by_cases b:K=1
 ·subst b;rw[if_pos rfl];go_enter func113,ntmps113;go_wp2_with (go_at_call 143;refine(qx _ _ _ _ _ _ _ _ _ _ _ _ _ _ _ _).mono ?_;rintro e w' ⟨rfl,rfl⟩;rw[j.out])
  go_ret
  exact⟨rfl,by go_grown⟩
 rw[if_neg b];by_cases c:K=2
 ·subst c;rw[if_pos rfl];clear d j b;cases h
  ·go_enter func113,ntmps113;go_wp2_with (go_at_call 144;refine(dE _ _ _ _ _ _ _).mono ?_;rintro e w' ⟨rfl,rfl⟩;rw[a.out])
   go_ret
   exact⟨rfl,by go_grown⟩
  cases n
  ·go_enter func113,ntmps113;go_wp2_with (first|(go_at_call 144;refine(dE _ _ _ _ _ _ _).mono ?_;rintro e w' ⟨rfl,rfl⟩;rw[a.out])|(go_at_call 47;refine(iK _ _ m).mono ?_;rintro e w' ⟨rfl,rfl⟩;rw[f.out]))
   go_ret
   exact⟨rfl,by go_grown⟩
  cases hv:decide (0<=v)
  ·go_enter func113,ntmps113;go_wp2_with (first|(go_at_call 144;refine(dE _ _ _ _ _ _ _).mono ?_;rintro e w' ⟨rfl,rfl⟩;rw[a.out])|(go_at_call 47;refine(iK _ _ m).mono ?_;rintro e w' ⟨rfl,rfl⟩;rw[f.out]))
   go_ret
   exact⟨rfl,by go_grown⟩
  ·go_enter func113,ntmps113;go_wp2_with (first|(go_at_call 144;refine(dE _ _ _ _ _ _ _).mono ?_;rintro e w' ⟨rfl,rfl⟩;rw[a.out])|(go_at_call 47;refine(iK _ _ m).mono ?_;rintro e w' ⟨rfl,rfl⟩;rw[f.out]))
   go_ret
   exact⟨rfl,by go_grown⟩
 rw[if_neg c];by_cases g:K=3
 ·subst g;rw[if_pos rfl];clear a f b c;cases i
  ·go_enter func113,ntmps113;go_wp2_with (go_at_call 144;refine(dE _ _ _ _ _ _ _).mono ?_;rintro e w' ⟨rfl,rfl⟩;rw[d.out])
   go_ret
   exact⟨rfl,by go_grown⟩
  ·go_enter func113,ntmps113;go_wp2_with (first|(go_at_call 144;refine(dE _ _ _ _ _ _ _).mono ?_;rintro e w' ⟨rfl,rfl⟩;rw[d.out])|(go_at_call 143;refine(qx _ _ _ _ _ _ _ _ _ _ _ _ _ _ _ _).mono ?_;rintro e w' ⟨rfl,rfl⟩;rw[j.out]))
   go_ret
   exact⟨rfl,by go_grown⟩
 rw[if_neg g];by_cases k:K=4
 ·subst k;rw[if_pos rfl];clear f b c g;cases h
  ·go_enter func113,ntmps113;go_wp2_with (go_at_call 144;refine(dE _ _ _ _ _ _ _).mono ?_;rintro e w' ⟨rfl,rfl⟩;rw[a.out])
   go_ret
   exact⟨rfl,by go_grown⟩
  cases i
  ·go_enter func113,ntmps113;go_wp2_with (go_at_call 144;refine(dE _ _ _ _ _ _ _).mono ?_;rintro e w' ⟨rfl,rfl⟩;first|rw[a.out]|rw[d.out])
   go_ret
   exact⟨rfl,by go_grown⟩
  ·go_enter func113,ntmps113;go_wp2_with (first|(go_at_call 144;refine(dE _ _ _ _ _ _ _).mono ?_;rintro e w' ⟨rfl,rfl⟩;first|rw[a.out]|rw[d.out])|(go_at_call 143;refine(qx _ _ _ _ _ _ _ _ _ _ _ _ _ _ _ _).mono ?_;rintro e w' ⟨rfl,rfl⟩;rw[j.out]))
   go_ret
   exact⟨rfl,by go_grown⟩
 rw[if_neg k];have x:(K==1)=false:=by simpa using b
 have y:(K==2)=false:=by simpa using c
 have z:(K==3)=false:=by simpa using g
 have A:(K==4)=false:=by simpa using k
 clear b c g k;go_enter func113,ntmps113;go_wp2_with fail
 go_ret
 exact⟨rfl,by go_grown⟩
theorem GL(n:Nat)(a:Ac (n+1))(w:World)(b:a.2.2.1.size<=maxLen):am 113 #[.agg (fZ (n+1) a).toArray] w λe w'=>e=.returned (.bool (nN (n+1) a))/\aj w w':=by
 unfold maxLen at b;exact Dx a.1 _ _ _ _ _ _ _ _ _ _ _ _ _ _ w (by omega) _ _ _ _ rfl rfl rfl rfl
def NZ(n:Nat)(w:World)(b o:Nat)(x:Ac (n+1)):Prop:=
 w.cell? ⟨b,o,none⟩=some (ab x.1)/\
 (w.cell? ⟨b,o+1,none⟩=some (ab x.2.1.1.1.1)/\w.cell? ⟨b,o+2,none⟩=some (ab x.2.1.1.1.2.1)/\w.cell? ⟨b,o+3,none⟩=some (af x.2.1.1.1.2.2)/\w.cell? ⟨b,o+4,none⟩=some (ae x.2.1.1.2.1.1 x.2.1.1.2.2.length x.2.1.1.2.1.2))/\
 (w.cell? ⟨b,o+5,none⟩=some (ab x.2.1.2.1.1)/\w.cell? ⟨b,o+6,none⟩=some (ab x.2.1.2.1.2.1)/\w.cell? ⟨b,o+7,none⟩=some (af x.2.1.2.1.2.2)/\w.cell? ⟨b,o+8,none⟩=some (ae x.2.1.2.2.1.1 x.2.1.2.2.2.length x.2.1.2.2.1.2))/\
 w.cell? ⟨b,o+9,none⟩=some (af x.2.2.1)/\w.cell? ⟨b,o+10,none⟩=some (ab x.2.2.2)
def N4(n:Nat)(w:World)(b o:Nat)(x:Cl (n+1)):Prop:=
 (w.cell? ⟨b,o,none⟩=some (ab x.1.1.1.1)/\w.cell? ⟨b,o+1,none⟩=some (ab x.1.1.1.2.1)/\w.cell? ⟨b,o+2,none⟩=some (af x.1.1.1.2.2)/\w.cell? ⟨b,o+3,none⟩=some (ae x.1.1.2.1.1 x.1.1.2.2.length x.1.1.2.1.2))/\
 (w.cell? ⟨b,o+4,none⟩=some (ab x.1.2.1.1.1)/\w.cell? ⟨b,o+5,none⟩=some (ab x.1.2.1.1.2.1)/\w.cell? ⟨b,o+6,none⟩=some (af x.1.2.1.1.2.2)/\w.cell? ⟨b,o+7,none⟩=some (ae x.1.2.1.2.1.1 x.1.2.1.2.2.length x.1.2.1.2.1.2))/\
 w.cell? ⟨b,o+8,none⟩=some (ae x.2.1.1 x.2.2.length x.2.1.2)/\
 (w.cell? ⟨b,o+9,none⟩=some (ab x.1.2.2.1.1)/\w.cell? ⟨b,o+10,none⟩=some (ab x.1.2.2.1.2.1)/\w.cell? ⟨b,o+11,none⟩=some (af x.1.2.2.1.2.2)/\w.cell? ⟨b,o+12,none⟩=some (ae x.1.2.2.2.1.1 x.1.2.2.2.2.length x.1.2.2.2.1.2))
theorem pY.ac{n B:Nat}{w:World}{e:Ac (n+1)->Prop}{a:Option Addr}{p:List (Ac (n+1))}(d:pY B w 11 (fZ (n+1)) e a p)(k:Nat)(x:Ac (n+1))(f:p[k]?=some x):∃b o,a=some ⟨b,o,none⟩/\b<B/\NZ n w b (o+k*11) x/\e x:=by
 rcases d with d|⟨b,o,g,i,d⟩
 ·subst d;simp at f
 ·obtain⟨c,h⟩:=d k x f;exact⟨b,o,g,i,⟨c 0 _ rfl,⟨c 1 _ rfl,c 2 _ rfl,c 3 _ rfl,c 4 _ rfl⟩,⟨c 5 _ rfl,c 6 _ rfl,c 7 _ rfl,c 8 _ rfl⟩,c 9 _ rfl,c 10 _ rfl⟩,h⟩
theorem pY.cl{n B:Nat}{w:World}{e:Cl (n+1)->Prop}{a:Option Addr}{p:List (Cl (n+1))}(d:pY B w 13 (eZ (n+1)) e a p)(k:Nat)(x:Cl (n+1))(f:p[k]?=some x):∃b o,a=some ⟨b,o,none⟩/\b<B/\N4 n w b (o+k*13) x/\e x:=by
 rcases d with d|⟨b,o,g,i,d⟩
 ·subst d;simp at f
 ·obtain⟨c,h⟩:=d k x f;exact⟨b,o,g,i,⟨⟨c 0 _ rfl,c 1 _ rfl,c 2 _ rfl,c 3 _ rfl⟩,⟨c 4 _ rfl,c 5 _ rfl,c 6 _ rfl,c 7 _ rfl⟩,c 8 _ rfl,c 9 _ rfl,c 10 _ rfl,c 11 _ rfl,c 12 _ rfl⟩,h⟩
theorem pY.bh{n B:Nat}{w:World}{d:Bh (n+1)->Prop}{a:Option Addr}{p:List (Bh (n+1))}(c:pY B w 2 (oI (n+1)) d a p)(k:Nat)(x:Bh (n+1))(f:p[k]?=some x):∃b o,a=some ⟨b,o,none⟩/\b<B/\(w.cell? ⟨b,o+k*2,none⟩=some (af x.1)/\w.cell? ⟨b,o+k*2+1,none⟩=some (ae x.2.1.1 x.2.2.length x.2.1.2))/\d x:=by
 rcases c with c|⟨b,o,g,i,c⟩
 ·subst c;simp at f
 ·obtain⟨e,h⟩:=c k x f;exact⟨b,o,g,i,⟨e 0 _ rfl,e 1 _ rfl⟩,h⟩
theorem kw{b:Type}{c:Nat->World->b->Prop}{d:(Nat->Prop)->b->Prop}(g:jS c d){k:Nat}{f:b->List Value}{a:Option Addr}{B:Nat}{w w':World}(h:Below B w w'){l:List b}(e:pY B w k f (c B w) a l):pY B w' k f (c B w') a l:=(cq g k f a).below h e
theorem AG(n:Nat)(p:List (Ac (n+1)))(len:Nat)(r:Hid (p.length=len))(a:Option Addr)(pc B:Nat)(w:World)(u:Hid (pY B w 11 (fZ (n+1)) (iA (n+1) B w) a p))(C:len<=9223372036854775807)(s:B<=w.heap.size):am 85 #[ae a len pc] w λe w'=>e=.returned (.bool (decide ((len:Int)<=8) && p.all (nN (n+1))))/\aj w w':=by
 by_cases x:(8:Int)<len
 ·have f:decide ((len:Int)<=8)=false:=by simp;omega
  rw[f];go_enter func85,ntmps85;go_wp2_with fail
  go_ret
  exact⟨rfl,ap _ _⟩
 have f:decide ((len:Int)<=8)=true:=by simp;omega
 rw[f,ez];clear f;go_enter func85,ntmps85;go_wp2_with fail;go_loopw [10] (λj wr=>∃k:Nat,k<=len/\j=ab k/\aj w wr/\Hid ((p.drop k).all (nN (n+1))=p.all (nN (n+1)))) (λj _=>len-(intOf j).toNat)
 case atStart=>exact⟨0,by omega,rfl,ap _ _,rfl⟩
 case round=>
  obtain⟨k,y,rfl,d,h⟩:=hrel;by_cases t:k<len
  ·obtain⟨b,i⟩:∃b,p[k]?=some b:=⟨p[k]'(by rw[r.out];exact t),aG _⟩;have l:=aq (qQ (nN (n+1)) p k b i);obtain⟨E,po,rfl,D,⟨F,⟨G,I,J,K⟩,⟨L,M,N,O⟩,P,H⟩,q⟩:=(kw (fD (n+1)) (d.mono s) u).ac k b i;have g:=λc=>aq (GL n b c q.2.2.2.1);replace g:Hid (∀c,am 113 #[.agg #[ab b.1,ab b.2.1.1.1.1,ab b.2.1.1.1.2.1,af b.2.1.1.1.2.2,ae b.2.1.1.2.1.1 b.2.1.1.2.2.length b.2.1.1.2.1.2,ab b.2.1.2.1.1,ab b.2.1.2.1.2.1,af b.2.1.2.1.2.2,ae b.2.1.2.2.1.1 b.2.1.2.2.2.length b.2.1.2.2.1.2,af b.2.2.1,ab b.2.2.2]] c λe w'=>e=.returned (.bool (nN (n+1) b))/\aj c w'):=λc=>(g c);clear q i;generalize nN (n+1) b=v at*;have z:(0:Int)<=(k:Int):=by omega
   have A:(k:Int)<(len:Int):=by omega
   go_wp2_with fail;refine(g _).mono ?_;rintro e c ⟨rfl,m⟩;have o:aj w c:=(d.trans (((ap _ _).alloc (ak _) _).mono d.size)).trans (m.mono (by have:=d.size;simp;omega));clear m;cases v with
   | true=>
    go_wp2_with fail;go_roundw
    case rel=>exact⟨k+1,by omega,by go_num,o,by rw[<-h.out,l.out];rfl⟩
    case measure=>simp[intOf];omega
   | false=>
    go_wp2_with fail
    go_ret
    exact⟨bS (by rw[<-h.out,l.out];rfl),o⟩
  ·go_wp2_with fail
   go_ret
   refine⟨bS ?_,d⟩;rw[<-h.out,gt (by rw[r.out];omega)];rfl
theorem uB(n:Nat)(p:List (Cl (n+1)))(len:Nat)(s:Hid (p.length=len))(a:Option Addr)(pc B:Nat)(w:World)(y:Hid (pY B w 13 (eZ (n+1)) (gY (n+1) B w) a p))(G:len<=9223372036854775807)(m:B<=w.heap.size):am 48 #[ae a len pc] w λe w'=>e=.returned (.bool (decide (1<=(len:Int)) && decide ((len:Int)<=6) && p.all (tF (n+1))))/\aj w w':=by
 by_cases A:(len:Int)<1
 ·have v:decide (1<=(len:Int))=false:=by simp;omega
  rw[v];go_enter func48,ntmps48;go_wp2_with fail
  go_ret
  exact⟨rfl,ap _ _⟩
 by_cases C:(6:Int)<len
 ·have f:decide ((len:Int)<=6)=false:=by simp;omega
  rw[f];go_enter func48,ntmps48;go_wp2_with fail
  go_ret
  exact⟨bS (by simp),ap _ _⟩
 have f:(decide (1<=(len:Int)) && decide ((len:Int)<=6))=true:=by simp;omega
 rw[f,ez];clear f;go_enter func48,ntmps48;go_wp2_with fail;go_loopw [15] (λj wr=>∃k:Nat,k<=len/\j=ab k/\aj w wr/\Hid ((p.drop k).all (tF (n+1))=p.all (tF (n+1)))) (λj _=>len-(intOf j).toNat)
 case atStart=>exact⟨0,by omega,rfl,ap _ _,rfl⟩
 case round=>
  obtain⟨k,D,rfl,d,g⟩:=hrel;by_cases x:k<len
  ·obtain⟨b,i⟩:∃b,p[k]?=some b:=⟨p[k]'(by rw[s.out];exact x),aG _⟩;have l:=aq (qQ (tF (n+1)) p k b i);obtain⟨I,po,rfl,H,⟨⟨J,K,O,P⟩,⟨Q,R,S,T⟩,U,V,L,M,N⟩,h⟩:=(kw (en (n+1)) (d.mono m) y).cl k b i;have o:B<=wr.heap.size:=az m d.size
   have u:Hid (∀c,aj wr c->am 85 #[ae b.2.1.1 b.2.2.length b.2.1.2] c λe w'=>e=.returned (.bool (tF (n+1) b))/\aj c w'):=
    λc t=>AG n b.2.2 b.2.2.length rfl b.2.1.1 b.2.1.2 B c (kw (fD (n+1)) (t.mono o) h.2.2) (by have:=h.2.1;unfold maxLen at this;omega) (az o t.size)
   clear h i;generalize tF (n+1) b=z at*;have E:(0:Int)<=(k:Int):=by omega
   have F:(k:Int)<(len:Int):=by omega
   go_wp2_with fail;refine(u _ ((ap _ _).alloc (ak _) _)).mono ?_;rintro e c ⟨rfl,q⟩;have r:aj w c:=(d.trans (((ap _ _).alloc (ak _) _).mono d.size)).trans (q.mono (by have:=d.size;simp;omega));clear q;cases z with
   | true=>
    go_wp2_with fail;go_roundw
    case rel=>exact⟨k+1,by omega,by go_num,r,by rw[<-g.out,l.out];rfl⟩
    case measure=>simp[intOf];omega
   | false=>
    go_wp2_with fail
    go_ret
    exact⟨bS (by rw[<-g.out,l.out];rfl),r⟩
  ·go_wp2_with fail
   go_ret
   refine⟨bS ?_,d⟩;rw[<-g.out,gt (by rw[s.out];omega)];rfl
theorem Oq(n:Nat)(x:Bh n):wF n x=(dF x.1 && (decide (1<=(x.2.2.length:Int)) && decide ((x.2.2.length:Int)<=6) && x.2.2.all (tF n))):=by
 simp only[wF,Bool.and_assoc]
theorem pO(n:Nat)(p:List (Bh (n+1)))(len:Nat)(l:Hid (p.length=len))(a:Option Addr)(pc B:Nat)(w:World)(D:Hid (fR (n+1) B w a p))(M:len<=9223372036854775807)(s:B<=w.heap.size):am 21 #[ae a len pc] w λe w'=>e=.returned (.bool (ky (n+1) p))/\aj w w':=by
 have r:Hid (ky (n+1) p=(decide (1<=(len:Int)) && decide ((len:Int)<=7) && p.all (wF (n+1)))):=by
  show ky (n+1) p=_;rw[<-l.out];rfl
 rw[r.out];by_cases H:(len:Int)<1
 ·have A:decide (1<=(len:Int))=false:=by simp;omega
  rw[A];go_enter func21,ntmps21;go_wp2_with fail
  go_ret
  exact⟨rfl,ap _ _⟩
 by_cases I:(7:Int)<len
 ·have f:decide ((len:Int)<=7)=false:=by simp;omega
  rw[f];go_enter func21,ntmps21;go_wp2_with fail
  go_ret
  exact⟨bS (by simp),ap _ _⟩
 have f:(decide (1<=(len:Int)) && decide ((len:Int)<=7))=true:=by simp;omega
 rw[f,ez];clear f r;go_enter func21,ntmps21;go_wp2_with fail;go_loopw [15] (λo wr=>∃k:Nat,k<=len/\o=ab k/\aj w wr/\Hid ((p.drop k).all (wF (n+1))=p.all (wF (n+1)))) (λo _=>len-(intOf o).toNat)
 case atStart=>exact⟨0,by omega,rfl,ap _ _,rfl⟩
 case round=>
  obtain⟨k,J,rfl,d,g⟩:=hrel;by_cases C:k<len
  ·obtain⟨b,m⟩:∃b,p[k]?=some b:=⟨p[k]'(by rw[l.out];exact C),aG _⟩;have j:=aq (qQ (wF (n+1)) p k b m);obtain⟨O,po,rfl,N,⟨Q,R⟩,h⟩:=(fR.below (d.mono s) D).bh k b m;have t:B<=wr.heap.size:=az s d.size;have E:b.1.size<=9223372036854775807:=by have:=h.1;unfold maxLen at this;omega
   have z:Hid (∀c,aj wr c->am 48 #[ae b.2.1.1 b.2.2.length b.2.1.2] c λe w'=>e=.returned (.bool (decide (1<=(b.2.2.length:Int)) && decide ((b.2.2.length:Int)<=6) && b.2.2.all (tF (n+1))))/\aj c w'):=
    λc y=>uB n b.2.2 b.2.2.length rfl b.2.1.1 b.2.1.2 B c (kw (en (n+1)) (y.mono t) h.2.2) (by have:=h.2.1;unfold maxLen at this;omega) (az t y.size)
   have i:=aq (Oq (n+1) b);clear h m;generalize (decide (1<=(b.2.2.length:Int)) && decide ((b.2.2.length:Int)<=6) && b.2.2.all (tF (n+1)))=F at*;have K:(0:Int)<=(k:Int):=by omega
   have L:(k:Int)<(len:Int):=by omega
   have q:=λc=>aq (iK b.1 c E);generalize dF b.1=G at*;generalize wF (n+1) b=P at*;have u:aj w (wr.alloc (.cells #[af b.1,ae b.2.1.1 b.2.2.length b.2.1.2] 110)):=d.trans (((ap _ _).alloc (ak _) _).mono d.size);cases G with
   | false=>
    go_wp2_with (go_at_call 47;refine(q _).mono ?_;rintro e w' ⟨rfl,rfl⟩)
    go_ret
    exact⟨bS (by rw[<-g.out,j.out,i.out];rfl),u⟩
   | true=>
    go_wp2_with (first|(go_at_call 47;refine(q _).mono ?_;rintro e w' ⟨rfl,rfl⟩)|(go_at_call 48;refine(z _ ((ap _ _).alloc (ak _) _)).mono ?_;rintro e c ⟨rfl,v⟩;have x:aj w c:=u.trans (v.mono (by have:=d.size;simp;omega));clear v;cases F))
    ·go_ret
     exact⟨bS (by rw[<-g.out,j.out,i.out];rfl),x⟩
    ·go_roundw
     case rel=>exact⟨k+1,by omega,by go_num,x,by rw[<-g.out,j.out,i.out];rfl⟩
     case measure=>simp[intOf];omega
  ·go_wp2_with fail
   go_ret
   refine⟨bS ?_,d⟩;rw[<-g.out,gt (by rw[l.out];omega)];rfl
theorem iG(s:ByteArray)(w:World):am 49 #[af s] w λe w'=>e=.returned (.agg #[ab 2,ab 0,af s,ae none 0 0])/\w'=w.alloc (.cells #[ab 2,ab 0,af s,ae none 0 0] 28):=by
 go_enter func49,ntmps49;go_wp2_with fail;exact av (v:=.agg #[ab 2,ab 0,af s,ae none 0 0]) (by simp[results,results49,go_sem]) rfl ⟨rfl,rfl⟩
theorem fH(a:Option Addr)(l c:Nat)(w:World):am 51 #[ae a l c] w λe w'=>e=.returned (.agg #[ab 4,ab 0,af ⟨#[]⟩,ae a l c])/\w'=w.alloc (.cells #[ab 4,ab 0,af ⟨#[]⟩,ae a l c] 28):=by
 go_enter func51,ntmps51;go_wp2_with fail;exact av (v:=.agg #[ab 4,ab 0,af ⟨#[]⟩,ae a l c]) (by simp[results,results51,go_sem]) rfl ⟨rfl,rfl⟩
def iF(B N:Nat)(c:Tm N)(w:World)(e:Ending)(w':World):Prop:=
 ∃a:Tm N,e=.returned (df N a)/\Hid (aj w w'/\In w'.heap.size w' N a/\cd (λb=>b<B\/w.heap.size<=b) N a/\ay N a N c=true)
abbrev ed(n B base:Nat)(xs:List (Tm n))(v:Value)(w0 wr:World):Prop:=fi (λB w x=>In B w n x) (λP x=>cd P n x) (il n) 4 28 B base xs v w0 wr
theorem pd(n:Nat)(x:Tm n):(il n x).length=4:=rfl
theorem g9(s:ByteArray)(N:Nat)(a:s.size<=maxLen)(B:Nat)(w:World):In B w (N+1) (aZ s N):=⟨⟨by simp[aZ,dt],by simp[aZ,dt],a,by simp[aZ],by simp[aZ]⟩,ah rfl⟩
theorem By(k a:Int)(N:Nat)(b:dt k)(c:dt a)(B:Nat)(w:World):In B w (N+1) (bR k a N):=⟨⟨b,c,aI _,by simp[bR],by simp[bR]⟩,ah rfl⟩
theorem oH(s:ByteArray)(N:Nat)(P:Nat->Prop):cd P (N+1) (aZ s N):=ah rfl
theorem Fj{n:Nat}{w:World}{b o:Nat}{x:Tm n}{B:Nat}{w0:World}(d:In B w0 n x)(a:∀(j:Nat)(c:Value),(il n x)[j]?=some c->w.cell? ⟨b,o+j,none⟩=some c):dB w b o n x:=by
 cases n with
 | zero=>exact d.elim
 | succ n=>exact⟨a 0 _ rfl,a 1 _ rfl,a 2 _ rfl,a 3 _ rfl⟩
theorem ed.tells{B base N:Nat}{xs ys:List (Tm N)}{v:Value}{w w0 wr w':World}(p:ed N B base xs v w0 wr)(x:w.heap.size<=base)(s:aC (λa b=>ay N a N b) xs ys=true)(u:∀b,b<B\/base<=b->b<wr.heap.size->w'.heap[b]?=wr.heap[b]?)(t:wr.heap.size<=w'.heap.size)(g:aj w w'):∃a c,v=ae a xs.length c/\iF B (N+1) (cY N ys) w (.returned (.agg #[ab 4,ab 0,af ⟨#[]⟩,ae a xs.length c])) w':=by
 have j:=dX N;obtain⟨a,c,f,m,n,e⟩:=p.lay j (pd N);refine⟨a,c,f,((4,0,.empty),(a,c),xs),rfl,g,⟨⟨by simp[dt],by simp[dt],aI _,m.1,m.2⟩,?_⟩,?_,cV rfl s⟩
 ·have q:=(cq j 4 (il N) a).2.1 _ _ _ _ e n;have r:=(cq j 4 (il N) a).2.2.1 _ _ wr w' _ (λb l=>u b l.1 l.2) q n;have d:=(cq j 4 (il N) a).2.2.2.1 _ _ _ _ t r;rcases d with d|⟨b,o,f,g,d⟩
  ·exact ah d
  ·exact ai ⟨b,o,f,g,λk i h=>⟨Fj (d k i h).2 (d k i h).1,(d k i h).2⟩⟩
 ·rcases e with e|⟨b,o,f,g,e⟩
  ·exact ah e
  ·exact ai ⟨b,o,f,by omega,λk i h=>(e i (aH h)).mono λb g=>by omega⟩
theorem o9{B N:Nat}(xs:List (Tm N)){w w1 w':World}{cs:Array Value}{g L:Nat}(a:aj w w1)(r:g=w1.heap.size)(p:L=xs.length)(e:Below (w1.alloc (.cells cs 28)).heap.size (w1.alloc (.cells cs 28)) w')(q:cs.toList=xs.flatMap (il N))(u:xs.length<=8)(i:B<=w.heap.size)(f:∀y∈xs,In B w N y):iF B (N+1) (cY N xs) w (.returned (.agg #[ab 4,ab 0,af ⟨#[]⟩,ae (some ⟨g,0,none⟩) L L])) w':=by
 have o:=fi.lit (T:=28) (k:=4) (B:=B) (base:=w1.heap.size) (dX N) xs (w0:=w1) q (pd N) (by unfold maxLen;omega) (ak _) (ap _ _) (λy d=>⟨((f y d).below (a.mono i)).mono (az i a.size),(oR (f y d)).mono λb h=>ah h⟩);have j:aj w (w1.alloc (.cells cs 28)):=a.trans (((ap _ _).alloc (ak _) _).mono a.size);obtain⟨s,c,l,k⟩:=ed.tells o a.size (iS _ _ λy d=>lF (f y d)) (λb _ h=>e.block b h) e.size (j.trans (e.mono j.size));injection l with m t n;subst m n p r;exact k
theorem gP{w:World}{a b c:Obj}:aj w (((w.alloc a).alloc b).alloc c)/\w.heap.size+1+1+1=(((w.alloc a).alloc b).alloc c).heap.size:=
 ⟨(((ap _ _).alloc (ak _) _).alloc (by simp) _).alloc (by simp;omega) _,by simp⟩
theorem sZ{w:World}{a b c d:Obj}:aj w ((((w.alloc a).alloc b).alloc c).alloc d)/\w.heap.size+1+1+1+1=((((w.alloc a).alloc b).alloc c).alloc d).heap.size:=
 ⟨((((ap _ _).alloc (ak _) _).alloc (by simp) _).alloc (by simp;omega) _).alloc (by simp;omega) _,by simp⟩
theorem vH{w:World}{o:Obj}:aj w (w.alloc o).drew:=((ap _ _).alloc (ak _) _).drew
theorem aN{w:World}{o:Obj}:aj w (w.alloc o):=(ap _ _).alloc (ak _) _
theorem nD(s:ByteArray)(a:s.size<=8):s.size<=maxLen:=by unfold maxLen;omega
theorem Ad(n:Nat)(t x:Tm (n+1))(s:ByteArray)(v:Int)(B:Nat)(w:World)(b:In B w (n+1) t)(c:In B w (n+1) x)(h:B<=w.heap.size):am 114 #[.agg #[ab 1,ab t.1.1,ab t.1.2.1,af t.1.2.2,ae t.2.1.1 t.2.2.length t.2.1.2,ab x.1.1,ab x.1.2.1,af x.1.2.2,ae x.2.1.1 x.2.2.length x.2.1.2,af s,ab v]] w (iF B (n+2) (cY (n+1) [aZ mJ n,t,x]) w):=by
 have f:Hid (∀e∈[aZ mJ n,t,x],In B w (n+1) e):=λe d=>by
  simp only[ch,gw,gC]at d;rcases d with rfl|rfl|rfl
  ·exact g9 _ _ (nD _ (by decide)) _ _
  ·exact b
  ·exact c
 clear b c;go_enter func114,ntmps114;go_wp2_with fail
 go_region_held3 (λa=>(a.cell? ⟨w.heap.size,1,none⟩=some (ab t.1.1)/\a.cell? ⟨w.heap.size,2,none⟩=some (ab t.1.2.1)/\a.cell? ⟨w.heap.size,3,none⟩=some (af t.1.2.2)/\a.cell? ⟨w.heap.size,4,none⟩=some (ae t.2.1.1 t.2.2.length t.2.1.2))/\
     (a.cell? ⟨w.heap.size,5,none⟩=some (ab x.1.1)/\a.cell? ⟨w.heap.size,6,none⟩=some (ab x.1.2.1)/\a.cell? ⟨w.heap.size,7,none⟩=some (af x.1.2.2)/\a.cell? ⟨w.heap.size,8,none⟩=some (ae x.2.1.1 x.2.2.length x.2.1.2))) (first|(go_keep;done)|(simp[go_sem];done))
  ((first|(go_at_call 49;refine(iG _ _).mono ?_;rintro g i ⟨rfl,rfl⟩)|(go_at_call 51;refine(fH _ _ _ _).mono ?_;rintro g i ⟨rfl,rfl⟩)))
 go_wp2_with fail;exact av (v:=.agg #[ab 4,ab 0,af ⟨#[]⟩,ae (some ⟨w.heap.size+1+1+1,0,none⟩) 3 3]) (by simp[results,results114,go_sem]) rfl (o9 [aZ mJ n,t,x] gP.1 gP.2 rfl vH rfl (by simp) h f)
theorem Ab(n:Nat)(t x:Tm (n+1))(s:ByteArray)(v:Int)(B:Nat)(w:World)(b:In B w (n+1) t)(g:B<=w.heap.size):am 114 #[.agg #[ab 3,ab t.1.1,ab t.1.2.1,af t.1.2.2,ae t.2.1.1 t.2.2.length t.2.1.2,ab x.1.1,ab x.1.2.1,af x.1.2.2,ae x.2.1.1 x.2.2.length x.2.1.2,af s,ab v]] w (iF B (n+2) (cY (n+1) [aZ mI n,t]) w):=by
 have e:Hid (∀d∈[aZ mI n,t],In B w (n+1) d):=λd c=>by
  simp only[ch,gw,gC]at c;rcases c with rfl|rfl
  ·exact g9 _ _ (nD _ (by decide)) _ _
  ·exact b
 clear b;go_enter func114,ntmps114;go_wp2_with fail
 go_region_held3 (λa=>a.cell? ⟨w.heap.size,1,none⟩=some (ab t.1.1)/\a.cell? ⟨w.heap.size,2,none⟩=some (ab t.1.2.1)/\a.cell? ⟨w.heap.size,3,none⟩=some (af t.1.2.2)/\a.cell? ⟨w.heap.size,4,none⟩=some (ae t.2.1.1 t.2.2.length t.2.1.2)) (first|(go_keep;done)|(simp[go_sem];done))
  ((first|(go_at_call 49;refine(iG _ _).mono ?_;rintro f h ⟨rfl,rfl⟩)|(go_at_call 51;refine(fH _ _ _ _).mono ?_;rintro f h ⟨rfl,rfl⟩)))
 go_wp2_with fail;exact av (v:=.agg #[ab 4,ab 0,af ⟨#[]⟩,ae (some ⟨w.heap.size+1+1+1,0,none⟩) 2 2]) (by simp[results,results114,go_sem]) rfl (o9 [aZ mI n,t] gP.1 gP.2 rfl vH rfl (by simp) g e)
theorem Ae(n:Nat)(K:Int)(g:(K==1)=false)(h:(K==2)=false)(i:(K==3)=false)(t x:Tm (n+1))(s:ByteArray)(v:Int)(B:Nat)(w:World)(e:B<=w.heap.size):am 114 #[.agg #[ab K,ab t.1.1,ab t.1.2.1,af t.1.2.2,ae t.2.1.1 t.2.2.length t.2.1.2,ab x.1.1,ab x.1.2.1,af x.1.2.2,ae x.2.1.1 x.2.2.length x.2.1.2,af s,ab v]] w (iF B (n+2) (cY (n+1) [aZ lL n]) w):=by
 have c:Hid (∀b∈[aZ lL n],In B w (n+1) b):=λb a=>by
  simp only[ch,gw,gC]at a;subst a;exact g9 _ _ (nD _ (by decide)) _ _
 go_enter func114,ntmps114;go_wp2_with (first|(go_at_call 49;refine(iG _ _).mono ?_;rintro d f ⟨rfl,rfl⟩)|(go_at_call 51;refine(fH _ _ _ _).mono ?_;rintro d f ⟨rfl,rfl⟩));exact av (v:=.agg #[ab 4,ab 0,af ⟨#[]⟩,ae (some ⟨w.heap.size+1+1+1,0,none⟩) 1 1]) (by simp[results,results114,go_sem]) rfl (o9 [aZ lL n] gP.1 gP.2 rfl aN rfl (by simp) e c)
theorem wW(n:Nat)(t x:Tm (n+1))(s:ByteArray)(v:Int)(c:dt v)(b:s.size<=maxLen)(B:Nat)(w:World)(d:In B w (n+1) x)(i:B<=w.heap.size):am 114 #[.agg #[ab 2,ab t.1.1,ab t.1.2.1,af t.1.2.2,ae t.2.1.1 t.2.2.length t.2.1.2,ab x.1.1,ab x.1.2.1,af x.1.2.2,ae x.2.1.1 x.2.2.length x.2.1.2,af s,ab v]] w (iF B (n+2) (cY (n+1) [aZ iX n,aZ s n,x,bR 5 v n]) w):=by
 have g:Hid (∀f∈[aZ iX n,aZ s n,x,bR 5 v n],In B w (n+1) f):=λf e=>by
  simp only[ch,gw,gC]at e;rcases e with rfl|rfl|rfl|rfl
  ·exact g9 _ _ (nD _ (by decide)) _ _
  ·exact g9 _ _ b _ _
  ·exact d
  ·exact By _ _ _ (by simp[dt]) c _ _
 clear d b c;go_enter func114,ntmps114;go_wp2_with fail
 go_region_held3 (λa=>(a.cell? ⟨w.heap.size,9,none⟩=some (af s)/\a.cell? ⟨w.heap.size,10,none⟩=some (ab v))/\
     (a.cell? ⟨w.heap.size,5,none⟩=some (ab x.1.1)/\a.cell? ⟨w.heap.size,6,none⟩=some (ab x.1.2.1)/\a.cell? ⟨w.heap.size,7,none⟩=some (af x.1.2.2)/\a.cell? ⟨w.heap.size,8,none⟩=some (ae x.2.1.1 x.2.2.length x.2.1.2))) (first|(go_keep;done)|(simp[go_sem];done))
  ((first|(go_at_call 49;refine(iG _ _).mono ?_;rintro h j ⟨rfl,rfl⟩)|(go_at_call 51;refine(fH _ _ _ _).mono ?_;rintro h j ⟨rfl,rfl⟩)))
 all_goals go_wp2_with fail
 all_goals exact av (v:=.agg #[ab 4,ab 0,af ⟨#[]⟩,ae (some ⟨w.heap.size+1+1+1+1,0,none⟩) 4 4]) (by simp[results,results114,go_sem]) rfl (o9 [aZ iX n,aZ s n,x,bR 5 v n] sZ.1 sZ.2 rfl vH rfl (by simp) i g)
theorem Cu(n:Nat)(a:Ac (n+1))(B:Nat)(w:World)(o:iA (n+1) B w a)(c:B<=w.heap.size):am 114 #[.agg (fZ (n+1) a).toArray] w (iF B (n+2) (b9 n a) w):=by
 obtain⟨b,⟨t,f⟩,d,e⟩:=a;obtain⟨p,j,k,l,m⟩:=o;unfold b9;by_cases g:b=1
 ·subst g;exact Ad n t f d e B w j k c
 by_cases h:b=2
 ·subst h;exact wW n t f d e m l B w k c
 by_cases i:b=3
 ·subst i;exact Ab n t f d e B w j c
 ·simp only[g,h,i,if_false];exact Ae n b (by simpa using g) (by simpa using h) (by simpa using i) t f d e B w c
theorem Ep{B N base:Nat}(xs ys:List (Tm N)){w w1 w':World}{cs:Array Value}{g L:Nat}(m:base<=w1.heap.size)(p:g=w1.heap.size)(i:L=xs.length)(n:w.heap.size<=base)(s:∀b,b<B\/base<=b->b<(w1.alloc (.cells cs 28)).heap.size->w'.heap[b]?=(w1.alloc (.cells cs 28)).heap[b]?)(r:(w1.alloc (.cells cs 28)).heap.size<=w'.heap.size)(l:aj w w')(o:cs.toList=xs.flatMap (il N))(u:xs.length<=8)(j:∀y∈xs,In w1.heap.size w1 N y/\cd (λb=>b<B\/base<=b) N y)(q:aC (λa b=>ay N a N b) xs ys=true):iF B (N+1) (cY N ys) w (.returned (.agg #[ab 4,ab 0,af ⟨#[]⟩,ae (some ⟨g,0,none⟩) L L])) w':=by
 have h:=fi.lit (T:=28) (k:=4) (B:=B) (base:=base) (dX N) xs (w0:=w1) o (pd N) (by unfold maxLen;omega) m (ap _ _) j;obtain⟨a,c,d,k⟩:=ed.tells h n q s r l;injection d with e t f;subst e f i p;exact k
theorem ed.slice{N B base:Nat}{xs:List (Tm N)}{v:Value}{w0 wr:World}(b:ed N B base xs v w0 wr):∃a c,v=ae a xs.length c:=by
 rcases b.2.1.2 with⟨rfl,d⟩|⟨f,cap,e,rfl,_⟩
 ·exact⟨none,0,by rw[d]⟩
 ·exact⟨_,_,rfl⟩
theorem ul(N:Nat)(x:Tm N):∀b∈il N x,b.oneCell'=true:=by
 intro b a;simp[il,vC]at a;rcases a with rfl|rfl|rfl|rfl<;>rfl
theorem Ah(w:World)(x:Nd){g:Nat}(d:g=w.heap.size):∀j b,(vC x)[j]?=some b->(w.alloc (.cells #[ab x.1.1,ab x.1.2.1,af x.1.2.2,ae x.2.1 x.2.2.1 x.2.2.2] 28)).cell? ((⟨g,0,none⟩:Addr).add j)=some b:=by
 subst d;intro j b a;rw[fj];have:j<4:=(aO.1 a).1;have c:j=0\/j=1\/j=2\/j=3:=by omega
 rcases c with rfl|rfl|rfl|rfl<;>simp[vC]at a<;>subst a<;>simp[go_sem]
theorem ed.app{N B base k:Nat}{xs:List (Tm N)}{v:Value}{w0 wr a w4:World}{g c:Nat}(h:ed N B base xs v w0 wr)(q:xs.length=k)(i:B<=base)(n:base<=wr.heap.size)(f:aj wr a)(d:Tm N)(l:In a.heap.size a N d)(j:cd (λb=>b<B\/wr.heap.size<=b) N d){o:Obj}(r:w4.ownsRow base 28 4 (ae (some ⟨g,0,none⟩) (k+1) c) (k+1) (xs.flatMap (il N)++il N d))(p:(a.alloc o).grownBy w4 v.ownBlock)(m:v.ownBlock=some g\/g=a.heap.size+1):ed N B base (xs++ [d]) (ae (some ⟨g,0,none⟩) (k+1) c) w0 w4:=by
 subst q;have e:aj a (a.alloc o):=(ap _ _).alloc (ak _) _;exact fi.step (dX N) h i n (f.trans (e.mono f.size)) d ((l.below e).mono e.size) j r p (by simpa using m)
theorem ed.own{N B base k:Nat}{xs:List (Tm N)}{v:Value}{w0 wr b:World}(c:ed N B base xs v w0 wr)(d:xs.length=k)(a:aj wr b)(o:Obj):(b.alloc o).ownsRow base 28 4 v k (xs.flatMap (il N)):=by
 subst d;exact dS c.2.1 (a.trans (((ap _ _).alloc (ak _) _).mono a.size))
theorem gE(w:World)(o:Obj){b:Nat}(a:b<w.heap.size):(w.alloc o).heap[b]?=w.heap[b]? :=(dd w o none).block b a (by simp)
theorem au{w:World}{q:Nat}{cs:Array Value}{t:TypeId}(a:w.heap[q]?=some (.cells cs t))(j:Nat):w.cell? ⟨q,j,none⟩=cs[j]? :=by simp[World.cell?,a]
theorem cQ{w:World}{q:Nat}{cs:Array Value}{t:TypeId}(a:w.heap[q]?=some (.cells cs t))(j:Nat):w.frozen? ⟨q,j,none⟩=false:=by simp[World.frozen?,a]
theorem kj(w:World)(a c:Obj):((w.alloc a).alloc c).heap[w.heap.size]?=some a/\((w.alloc a).alloc c).heap[w.heap.size+1]?=some c:=by
 have f:=(gE (w.alloc a) c (b:=w.heap.size) (by simp)).trans (aE w a);have d:=aE (w.alloc a) c;have e:(w.alloc a).heap.size=w.heap.size+1:=by simp
 rw[e]at d;exact⟨f,d⟩
theorem zJ{w:World}{r o:Nat}{v0 v1 v2 v3:Value}{B base:Nat}(d:B<=r)(e:r<base){W:World}(a:aj W w):∀b,b<B\/base<=b->b<W.heap.size->(cW w r o v0 v1 v2 v3).heap[b]?=W.heap[b]? :=λb f c=>(aW (by omega) _ _ _ _).trans (a.block b c)
theorem dM{w W:World}{r o:Nat}{v0 v1 v2 v3:Value}(a:aj w W)(d:w.heap.size<=r):aj w (cW W r o v0 v1 v2 v3):=
 ⟨a.os,a.tape,a.output,az a.size (dz (bq _ _ _ _).symm),λb c=>(aW (by omega) _ _ _ _).trans (a.block b c)⟩
theorem ed.tup{N B base k:Nat}{xs:List (Tm N)}{j:Option Addr}{l:Nat}{w0 wr:World}(q:ed N B base xs (ae j k l) w0 wr):In wr.heap.size wr (N+1) ((4,0,.empty),(j,l),xs)/\cd (λb=>b<B\/base<=b) (N+1) ((4,0,.empty),(j,l),xs):=by
 obtain⟨s,c,a,m,r,e⟩:=q.lay (dX N) (pd N);injection a with n t p;subst n p;refine⟨⟨⟨by simp[dt],by simp[dt],aI _,m.1,m.2⟩,?_⟩,?_⟩
 ·rcases r with d|⟨b,o,a,i,d⟩
  ·exact ah d
  ·exact ai ⟨b,o,a,i,λh g f=>⟨Fj (d h g f).2 (d h g f).1,(d h g f).2⟩⟩
 ·rcases e with e|⟨b,o,a,i,e⟩
  ·exact ah e
  ·exact ai ⟨b,o,a,i,λh g f=>e g (aH f)⟩
theorem yU{n B base:Nat}{s m x:Tm (n+1)}{w wr w1:World}{c:Tm (n+3)}{ys:List (Tm (n+2))}(k:B<=w.heap.size)(p:In B w (n+1) s)(o:In B w (n+1) m)(q:In B w (n+1) x)(l:aj w wr)(j:In wr.heap.size wr (n+3) c/\cd (λb=>b<B\/base<=b) (n+3) c)(u:ay (n+3) c (n+3) (cY (n+2) ys)=true)(g:aj wr w1):(∀y∈[aZ LW (n+2),aS (n+3) (n+1) s,aS (n+3) (n+1) m,c,aS (n+3) (n+1) x],In w1.heap.size w1 (n+3) y/\cd (λb=>b<B\/base<=b) (n+3) y)/\ aC (λa b=>ay (n+3) a (n+3) b) [aZ LW (n+2),aS (n+3) (n+1) s,aS (n+3) (n+1) m,c,aS (n+3) (n+1) x] [aZ LW (n+2),aS (n+3) (n+1) s,aS (n+3) (n+1) m,cY (n+2) ys,aS (n+3) (n+1) x]=true:=by
 have e:∀t:Tm (n+1),In B w (n+1) t->In w1.heap.size w1 (n+3) (aS (n+3) (n+1) t)/\cd (λb=>b<B\/base<=b) (n+3) (aS (n+3) (n+1) t):=λt h=>by
  have i:=oT (n+3) (n+1) (by omega) t B w h;have d:=l.trans (g.mono l.size);exact⟨(i.below (d.mono k)).mono (az k d.size),(oR i).mono λb d=>ah d⟩
 have f:∀t:Tm (n+1),In B w (n+1) t->ay (n+3) (aS (n+3) (n+1) t) (n+3) (aS (n+3) (n+1) t)=true:=λt h=>lF (oT (n+3) (n+1) (by omega) t B w h);refine⟨λy r=>?_,by simp only[aC,f s p,f m o,f x q,u,dU,io]⟩;simp only[ch,gw,gC]at r;rcases r with rfl|rfl|rfl|rfl|rfl
 ·exact⟨g9 _ _ (nD _ (by decide)) _ _,oH _ _ _⟩
 ·exact e s p
 ·exact e m o
 ·exact⟨(j.1.below g).mono g.size,j.2⟩
 ·exact e x q
theorem gm(N n:Nat)(x:Tm (n+1)):il (N+1) (aS (N+1) (n+1) x)=il (n+1) x:=by
 unfold il;rw[MR]
theorem yT(n:Nat)(s m x:Tm (n+1))(a:Option Addr)(b k:Nat)(xs:List (Tm (n+2)))(c:xs.length=k):[ab 2,ab 0,af ⟨#[111,110]⟩,ae none 0 0,ab s.1.1,ab s.1.2.1,af s.1.2.2,ae s.2.1.1 s.2.2.length s.2.1.2,ab m.1.1,ab m.1.2.1,af m.1.2.2,ae m.2.1.1 m.2.2.length m.2.1.2,ab 4,ab 0,af ⟨#[]⟩,ae a k b,ab x.1.1,ab x.1.2.1,af x.1.2.2,ae x.2.1.1 x.2.2.length x.2.1.2]=
     List.flatMap (il (n+3)) [aZ LW (n+2),aS (n+3) (n+1) s,aS (n+3) (n+1) m,((4,0,.empty),(a,b),xs),aS (n+3) (n+1) x]:=by
 show _=il (n+3) (aZ LW (n+2))++(il (n+3) (aS (n+3) (n+1) s)++(il (n+3) (aS (n+3) (n+1) m)++(il (n+3) ((4,0,.empty),(a,b),xs)++(il (n+3) (aS (n+3) (n+1) x)++ []))));rw[gm,gm,gm,<-c];rfl
theorem lS{a c:Type}(f:a->c)(p:List a)(k:Nat)(x:a)(b:p[k]?=some x):(p.take (k+1)).map f=(p.take k).map f++ [f x]:=by
 rw[dq,b];simp
def Qq(n B:Nat)(p:List (Ac (n+1)))(w0:World)(base k:Nat)(v:Value)(wr:World):Prop:=
 ∃a,a.length=k/\ed (n+2) B base a v w0 wr/\aC (λc b=>ay (n+2) c (n+2) b) a ((p.take k).map (b9 n))=true
theorem tS(n:Nat)(s m x:Tm (n+1))(p:List (Ac (n+1)))(len:Nat)(ax:Hid (p.length=len))(bw:len<=8)(a:Option Addr)(pc:Nat)(B:Nat)(w:World)(bd:Hid (In B w (n+1) s))(a9:Hid (In B w (n+1) m))(be:Hid (In B w (n+1) x))(bb:Hid (pY B w 11 (fZ (n+1)) (iA (n+1) B w) a p))(ad:B<=w.heap.size)(Y:Tm (n+4))(a3:Hid (Y=dG n ((s,m,x),(a,pc),p))):am 86 #[.agg #[ab s.1.1,ab s.1.2.1,af s.1.2.2,ae s.2.1.1 s.2.2.length s.2.1.2,ab m.1.1,ab m.1.2.1,af m.1.2.2,ae m.2.1.1 m.2.2.length m.2.1.2,ae a len pc,ab x.1.1,ab x.1.2.1,af x.1.2.2,ae x.2.1.1 x.2.2.length x.2.1.2]] w (iF B (n+4) Y w):=by
 obtain⟨bf,ao,aA,aB,aD⟩:=bP gh;have G:=aq (⟨ao,aA,aB,aD⟩:_/\_/\_/\_);clear ao aA aB aD;go_enter func86,ntmps86;go_wp2_with fail;have F:=aq (kj w (.cells #[ab s.1.1,ab s.1.2.1,af s.1.2.2,ae s.2.1.1 s.2.2.length s.2.1.2,ab m.1.1,ab m.1.2.1,af m.1.2.2,ae m.2.1.1 m.2.2.length m.2.1.2,ae a len pc,ab x.1.1,ab x.1.2.1,af x.1.2.2,ae x.2.1.1 x.2.2.length x.2.1.2] 171) (.cells #[ab 0,ab 0,af ⟨#[]⟩,ae none 0 0] 28));generalize O:(w.alloc _).alloc _=z;rw[O]at F;have J:Hid (aj w z/\z.heap.size=w.heap.size+2):=by
  subst O;exact⟨((ap _ _).alloc (ak _) _).alloc (by simp) _,by simp⟩
 have S:Hid (∀wr,Below (w.heap.size+2) z wr->aj w wr):=λwr y=>J.out.1.trans (y.mono (by omega));go_loopw [3,9] (λv R wr=>∃(k:Nat)(aF:Value),k<=len/\R=ab k/\aF=v/\Hid (Qq n B p z (w.heap.size+2) k aF wr)) (λ_ R _=>len-(intOf R).toNat)
 case atStart=>exact⟨0,_,by omega,rfl,rfl,[],rfl,fi.nil _,rfl⟩
 case round=>
  obtain⟨k,v,bx,rfl,rfl,W⟩:=hrel;obtain⟨u,t,j,L⟩:∃u:List (Tm (n+2)),Hid (u.length=k)/\Hid (ed (n+2) B (w.heap.size+2) u v z wr)/\Hid (aC (λa b=>ay (n+2) a (n+2) b) u ((p.take k).map (b9 n))=true):=W.out;clear W;have E:=aq (S.out wr j.out.1);have a6:w.heap.size+2<=wr.heap.size:=by have:=j.out.1.size;have:=J.out.2;omega
  by_cases a8:k<len
  ·obtain⟨e,Q⟩:∃e,p[k]?=some e:=⟨p[k]'(by rw[ax.out];exact a8),aG _⟩;have aK:=aq (lS (b9 n) p k e Q);obtain⟨bg,po,rfl,bC,⟨bh,⟨bi,bk,bl,bm⟩,⟨bn,bo,bp,br⟩,bs,bj⟩,an⟩:=(kw (fD (n+1)) (E.out.mono ad) bb.out).ac k e Q;have ag:B<=wr.heap.size:=by omega
   have T:Hid (∀w1,aj wr w1->am 114 #[.agg #[ab e.1,ab e.2.1.1.1.1,ab e.2.1.1.1.2.1,af e.2.1.1.1.2.2,ae e.2.1.1.2.1.1 e.2.1.1.2.2.length e.2.1.1.2.1.2,ab e.2.1.2.1.1,ab e.2.1.2.1.2.1,af e.2.1.2.1.2.2,ae e.2.1.2.2.1.1 e.2.1.2.2.2.length e.2.1.2.2.1.2,af e.2.2.1,ab e.2.2.2]] w1 (iF B (n+2) (b9 n e) w1)):=
    λw1 aE=>Cu n e B w1 ((fD (n+1)).below (aE.mono ag) an) (az ag aE.size)
   clear an Q;generalize b9 n e=bt at*;have bz:(0:Int)<=(k:Int):=by omega
   have bA:(k:Int)<(len:Int):=by omega
   have bD:bg<wr.heap.size:=by omega
   obtain⟨l,q,C⟩:=j.out.slice;rw[t.out]at C;subst C;go_wp2_with fail;refine(T.out _ aN).mono ?_;rintro N D ⟨i,rfl,H⟩;have K:Hid (aj wr D):=aN.trans (H.out.1.mono (by simp));have Z:df (n+2) i=.agg #[ab i.1.1,ab i.1.2.1,af i.1.2.2,ae i.2.1.1 i.2.2.length i.2.1.2]:=rfl;rw[Z];have aM:=λ(o:Obj)(g c:Nat)(w4:World) ba a7 a4=>aq (j.out.app t.out (by omega) a6 K.out i H.out.2.1 (H.out.2.2.1.mono λb a5=>by simp at a5;omega) (o:=o) (g:=g) (c:=c) (w4:=w4) ba a7 a4);have bv:wr.heap.size<=D.heap.size:=K.out.size;clear Z T bh bi bk bl bm bn bo bp br bs bj;go_wp2_with (at_builtin;refine wpList_append_lies _ rfl _ _ 26 rfl (w.heap.size+2) 28 bf _ 4 56 underlying26 G.out.1 G.out.2.1 G.out.2.2.1 G.out.2.2.2 rfl (by decide) (ae l k q) k (u.flatMap (il (n+2))) (by simp[Act.eval]) (j.out.own t.out K.out _) ⟨D.heap.size,0,none⟩ 1 1 (il (n+2) i) (by simp[Act.eval]) rfl (Ah D (gg (n+2) i) rfl) (ul _ _) (by decide) (by unfold maxLen;omega) (by omega) (by simp;omega) (D.heap.size+1) (by simp) ?_;intro a1 M w4 aw al ai bB;have aL:=aM _ a1 M w4 aw al ai;clear aw al ai);go_roundw
   case rel=>exact⟨k+1,_,by omega,by go_num,rfl,u++ [i],by simp[t.out],aL.out,by rw[aK.out];exact iT _ _ _ _ _ L.out H.out.2.2.2⟩
   case measure=>simp[intOf];omega
  ·obtain rfl:k=len:=by omega
   obtain⟨l,q,C⟩:=j.out.slice;rw[t.out]at C;subst C;have f:=aq (And.intro ((j.out.1.block w.heap.size (by omega)).trans F.out.1) ((j.out.1.block (w.heap.size+1) (by omega)).trans F.out.2));have aQ:wr.cell? ⟨w.heap.size,0,none⟩=some (ab s.1.1):=au f.out.1 0;have aR:wr.cell? ⟨w.heap.size,1,none⟩=some (ab s.1.2.1):=au f.out.1 1;have aV:wr.cell? ⟨w.heap.size,2,none⟩=some (af s.1.2.2):=au f.out.1 2;have aW:wr.cell? ⟨w.heap.size,3,none⟩=some (ae s.2.1.1 s.2.2.length s.2.1.2):=au f.out.1 3;have M:wr.cell? ⟨w.heap.size,4,none⟩=some (ab m.1.1):=au f.out.1 4;have aX:wr.cell? ⟨w.heap.size,5,none⟩=some (ab m.1.2.1):=au f.out.1 5;have aY:wr.cell? ⟨w.heap.size,6,none⟩=some (af m.1.2.2):=au f.out.1 6;have aZ:wr.cell? ⟨w.heap.size,7,none⟩=some (ae m.2.1.1 m.2.2.length m.2.1.2):=au f.out.1 7;have a0:wr.cell? ⟨w.heap.size,9,none⟩=some (ab x.1.1):=au f.out.1 9;have aS:wr.cell? ⟨w.heap.size,10,none⟩=some (ab x.1.2.1):=au f.out.1 10;have aT:wr.cell? ⟨w.heap.size,11,none⟩=some (af x.1.2.2):=au f.out.1 11;have aU:wr.cell? ⟨w.heap.size,12,none⟩=some (ae x.2.1.1 x.2.2.length x.2.1.2):=au f.out.1 12;have d0:wr.cell? ⟨w.heap.size+1,0,none⟩=some (ab 0):=au f.out.2 0;have d1:wr.cell? ⟨w.heap.size+1,1,none⟩=some (ab 0):=au f.out.2 1;have d2:wr.cell? ⟨w.heap.size+1,2,none⟩=some (af ⟨#[]⟩):=au f.out.2 2;have d3:wr.cell? ⟨w.heap.size+1,3,none⟩=some (ae none 0 0):=au f.out.2 3;have f0:=λI=>cQ f.out.2 I;have bc:w.heap.size<wr.heap.size:=by omega
   have A:w.heap.size+1<wr.heap.size:=by omega
   have U:Hid (∀d,aj wr d->(d.cell? ⟨w.heap.size,0,none⟩=some (ab s.1.1)/\d.cell? ⟨w.heap.size,1,none⟩=some (ab s.1.2.1)/\d.cell? ⟨w.heap.size,2,none⟩=some (af s.1.2.2)/\d.cell? ⟨w.heap.size,3,none⟩=some (ae s.2.1.1 s.2.2.length s.2.1.2))/\
     (d.cell? ⟨w.heap.size,4,none⟩=some (ab m.1.1)/\d.cell? ⟨w.heap.size,5,none⟩=some (ab m.1.2.1)/\d.cell? ⟨w.heap.size,6,none⟩=some (af m.1.2.2)/\d.cell? ⟨w.heap.size,7,none⟩=some (ae m.2.1.1 m.2.2.length m.2.1.2))/\
     (d.cell? ⟨w.heap.size,9,none⟩=some (ab x.1.1)/\d.cell? ⟨w.heap.size,10,none⟩=some (ab x.1.2.1)/\d.cell? ⟨w.heap.size,11,none⟩=some (af x.1.2.2)/\d.cell? ⟨w.heap.size,12,none⟩=some (ae x.2.1.1 x.2.2.length x.2.1.2))):=λd y=>by
    have h:=λo=>ar y w.heap.size o bc;exact⟨⟨(h _).trans aQ,(h _).trans aR,(h _).trans aV,(h _).trans aW⟩,⟨(h _).trans M,(h _).trans aX,(h _).trans aY,(h _).trans aZ⟩,(h _).trans a0,(h _).trans aS,(h _).trans aT,(h _).trans aU⟩
   have X:Hid True:=trivial;have aI:=λ(w1:World)(a2:aj wr w1)=>aq (yU (base:=w.heap.size+2) (ys:=p.map (b9 n)) (w1:=w1) ad bd.out a9.out be.out E.out j.out.tup (cV rfl (by have y:=L.out;rw[bu (by rw[ax.out];omega)]at y;exact y)) a2);have aJ:=aq t.out;clear O j t L f S J F;go_wp2_with fail
   go_region_held3 (λd=>(d.cell? ⟨w.heap.size,0,none⟩=some (ab s.1.1)/\d.cell? ⟨w.heap.size,1,none⟩=some (ab s.1.2.1)/\d.cell? ⟨w.heap.size,2,none⟩=some (af s.1.2.2)/\d.cell? ⟨w.heap.size,3,none⟩=some (ae s.2.1.1 s.2.2.length s.2.1.2))/\
       (d.cell? ⟨w.heap.size,4,none⟩=some (ab m.1.1)/\d.cell? ⟨w.heap.size,5,none⟩=some (ab m.1.2.1)/\d.cell? ⟨w.heap.size,6,none⟩=some (af m.1.2.2)/\d.cell? ⟨w.heap.size,7,none⟩=some (ae m.2.1.1 m.2.2.length m.2.1.2))/\
       (d.cell? ⟨w.heap.size,9,none⟩=some (ab x.1.1)/\d.cell? ⟨w.heap.size,10,none⟩=some (ab x.1.2.1)/\d.cell? ⟨w.heap.size,11,none⟩=some (af x.1.2.2)/\d.cell? ⟨w.heap.size,12,none⟩=some (ae x.2.1.1 x.2.2.length x.2.1.2))) (first|(go_keep;done)|exact U.out _ r.out|(refine U.out _ ?_;go_grown;done))
    ((first
     | (go_at_call 49;refine(iG _ _).mono ?_;rintro N w1 ⟨rfl,rfl⟩)
     | (go_at_call 51;have aP:=X;clear X;refine(fH _ _ _ _).mono ?_;rintro N w1 ⟨rfl,rfl⟩)
     | (go_at_call 51;clear aP;refine(fH _ _ _ _).mono ?_;rintro N aH ⟨rfl,P⟩;have r:=aq (show aj wr aH by rw[P];go_grown);have aO:=aq P;clear P;replace d0:=(ar r.out _ _ A).trans d0;replace d1:=(ar r.out _ _ A).trans d1;replace d2:=(ar r.out _ _ A).trans d2;replace d3:=(ar r.out _ _ A).trans d3;replace f0:=λI=>(gF r.out _ I A).trans (f0 I))))
   go_wp2_with fail;refine av (v:=.agg #[ab 4,ab 0,af ⟨#[]⟩,ae (some ⟨wr.heap.size+1+1,0,none⟩) 5 5]) (by simp[results,results86,go_sem,d0,d1,d2,d3]) rfl ?_;rw[a3.out];have ah:aj wr ((wr.alloc (.cells #[ab 2,ab 0,af ⟨#[111,110]⟩,ae none 0 0] 28)).alloc (.cells #[ab 4,ab 0,af ⟨#[]⟩,ae l k q] 28)):=by go_grown
   have aa:Below (((wr.alloc (.cells #[ab 2,ab 0,af ⟨#[111,110]⟩,ae none 0 0] 28)).alloc (.cells #[ab 4,ab 0,af ⟨#[]⟩,ae l k q] 28)).alloc (.cells #[ab 2,ab 0,af ⟨#[111,110]⟩,ae none 0 0,ab s.1.1,ab s.1.2.1,af s.1.2.2,ae s.2.1.1 s.2.2.length s.2.1.2,ab m.1.1,ab m.1.2.1,af m.1.2.2,ae m.2.1.1 m.2.2.length m.2.1.2,ab 4,ab 0,af ⟨#[]⟩,ae l k q,ab x.1.1,ab x.1.2.1,af x.1.2.2,ae x.2.1.1 x.2.2.length x.2.1.2] 28)).heap.size (((wr.alloc (.cells #[ab 2,ab 0,af ⟨#[111,110]⟩,ae none 0 0] 28)).alloc (.cells #[ab 4,ab 0,af ⟨#[]⟩,ae l k q] 28)).alloc (.cells #[ab 2,ab 0,af ⟨#[111,110]⟩,ae none 0 0,ab s.1.1,ab s.1.2.1,af s.1.2.2,ae s.2.1.1 s.2.2.length s.2.1.2,ab m.1.1,ab m.1.2.1,af m.1.2.2,ae m.2.1.1 m.2.2.length m.2.1.2,ab 4,ab 0,af ⟨#[]⟩,ae l k q,ab x.1.1,ab x.1.2.1,af x.1.2.2,ae x.2.1.1 x.2.2.length x.2.1.2] 28)) aH:=by rw[aO.out];go_grown
   have V:=aI _ ah;exact Ep (B:=B) (base:=w.heap.size+2) _ _ (by have:=ah.size;omega) (by simp) rfl (by omega) (zJ (by omega) (by omega) aa) (az aa.size (dz (bq _ _ _ _).symm)) (dM (E.out.trans (r.out.mono E.out.size)) (by omega)) (yT n s m x l q k u aJ.out) (by show 5<=8;omega) V.out.1 V.out.2
theorem wb(n:Nat)(c:Cl (n+1))(B:Nat)(w:World)(a:gY (n+1) B w c)(e:c.2.2.length<=8)(f:B<=w.heap.size):am 86 #[.agg (eZ (n+1) c).toArray] w (iF B (n+4) (dG n c) w):=by
 obtain⟨⟨h,g,i⟩,⟨d,pc⟩,b⟩:=c;exact tS n h g i b b.length rfl e d pc B w a.1.1 a.1.2.1 a.1.2.2 a.2.2 f _ rfl
def Qs(n B:Nat)(d:List (Tm (n+4)))(p:List (Cl (n+1)))(w0:World)(base k:Nat)(v:Value)(wr:World):Prop:=
 ∃a,a.length=k+2/\ed (n+4) B base a v w0 wr/\aC (λc b=>ay (n+4) c (n+4) b) a (d++(p.take k).map (dG n))=true
theorem qA(n:Nat)(s:ByteArray)(a6:s.size<=maxLen)(p:List (Cl (n+1)))(len:Nat)(aB:Hid (p.length=len))(bt:len<=6)(aX:Hid (∀c∈p,c.2.2.length<=8))(a:Option Addr)(pc:Nat)(B:Nat)(w:World)(a5:Hid (pY B w 13 (eZ (n+1)) (gY (n+1) B w) a p))(aY:B<=w.heap.size)(Z:Tm (n+5))(a0:Hid (Z=dQ n (s,(a,pc),p))):am 50 #[.agg #[af s,ae a len pc]] w (iF B (n+5) Z w):=by
 obtain⟨a8,ax,aE,aF,aI⟩:=bP gh;have A:=aq (⟨ax,aE,aF,aI⟩:_/\_/\_/\_);clear ax aE aF aI;go_enter func50,ntmps50;go_wp2_with fail;have O:=aq (kj w (.cells #[af s,ae a len pc] 110) (.cells #[ab 0,ab 0,af ⟨#[]⟩,ae none 0 0] 28)).2;have z:=aq (kj w (.cells #[af s,ae a len pc] 110) (.cells #[ab 0,ab 0,af ⟨#[]⟩,ae none 0 0] 28)).1;generalize P:(w.alloc _).alloc _=e;rw[P]at O z;have j:Hid (aj w e/\e.heap.size=w.heap.size+2):=by
  subst P;exact⟨((ap _ _).alloc (ak _) _).alloc (by simp) _,by simp⟩
 have aL:Hid (∀wr,Below (w.heap.size+2) e wr->aj w wr):=λwr h=>j.out.1.trans (h.mono (by omega));clear P;have aa:e.cell? ⟨w.heap.size,0,none⟩=some (af s):=au z.out 0;have ad:e.cell? ⟨w.heap.size,1,none⟩=some (ae a len pc):=au z.out 1;have aD:w.heap.size<e.heap.size:=by have:=j.out.2;omega
 have M:Hid (∀w',aj e w'->w'.cell? ⟨w.heap.size,0,none⟩=some (af s)/\w'.cell? ⟨w.heap.size,1,none⟩=some (ae a len pc)):=λw' h=>⟨(ar h _ _ aD).trans aa,(ar h _ _ aD).trans ad⟩;clear z
 go_region_held3 (λw'=>w'.cell? ⟨w.heap.size,0,none⟩=some (af s)/\w'.cell? ⟨w.heap.size,1,none⟩=some (ae a len pc)) (first|(go_keep;done)|(refine M.out _ ?_;go_grown;done))
  ((go_at_call 49;refine(iG _ _).mono ?_;rintro D w1 ⟨rfl,rfl⟩))
 have X:Hid (aC (λa b=>ay (n+4) a (n+4) b) [aZ tV (n+3),aZ s (n+3)] ([aZ tV (n+3),aZ s (n+3)]++(p.take 0).map (dG n))=true):=by
  show _=true;simp[aC,dU]
 have L:Hid (ed (n+4) B (w.heap.size+2) [aZ tV (n+3),aZ s (n+3)] (ae (some ⟨e.heap.size+1+1,0,none⟩) 2 2) e (((e.alloc (.cells #[ab 2,ab 0,af ⟨#[98,101,104]⟩,ae none 0 0] 28)).alloc (.cells #[ab 2,ab 0,af s,ae none 0 0] 28)).alloc (.cells #[ab 2,ab 0,af ⟨#[98,101,104]⟩,ae none 0 0,ab 2,ab 0,af s,ae none 0 0] 28)).drew):=by
  have h:=fi.lit (T:=28) (k:=4) (B:=B) (base:=w.heap.size+2) (dX (n+4)) [aZ tV (n+3),aZ s (n+3)] (w0:=e) (w1:=(e.alloc (.cells #[ab 2,ab 0,af ⟨#[98,101,104]⟩,ae none 0 0] 28)).alloc (.cells #[ab 2,ab 0,af s,ae none 0 0] 28)) (cs:= #[ab 2,ab 0,af ⟨#[98,101,104]⟩,ae none 0 0,ab 2,ab 0,af s,ae none 0 0]) rfl (pd _) (by show 2<=maxLen;unfold maxLen;omega) (by have:=j.out.2;simp;omega) (((ap _ _).alloc (by have:=j.out.2;omega) _).alloc (by have:=j.out.2;simp;omega) _) (λd m=>by
   simp only[ch,gw,gC]at m;rcases m with rfl|rfl
   ·exact⟨g9 _ _ (nD _ (by decide)) _ _,oH _ _ _⟩
   ·exact⟨g9 _ _ a6 _ _,oH _ _ _⟩)
  have D:((e.alloc (.cells #[ab 2,ab 0,af ⟨#[98,101,104]⟩,ae none 0 0] 28)).alloc (.cells #[ab 2,ab 0,af s,ae none 0 0] 28)).heap.size=e.heap.size+1+1:=by simp
  rw[D]at h;exact h.later (dX _) (by have:=j.out.2;simp;omega) (ap _ _).drew
 have N:=aq (M.out _ (show aj e (((e.alloc (.cells #[ab 2,ab 0,af ⟨#[98,101,104]⟩,ae none 0 0] 28)).alloc (.cells #[ab 2,ab 0,af s,ae none 0 0] 28)).alloc (.cells #[ab 2,ab 0,af ⟨#[98,101,104]⟩,ae none 0 0,ab 2,ab 0,af s,ae none 0 0] 28)).drew by go_grown));generalize ai:(((e.alloc _).alloc _).alloc _).drew=aT;rw[ai]at L N;have bC:aT.cell? ⟨w.heap.size,1,none⟩=some (ae a len pc):=N.out.2;clear ai M N aa ad;go_wp2_with fail;go_loopw [3,14] (λv R wr=>∃(k:Nat)(aK:Value),k<=len/\R=ab k/\aK=v/\Hid (Qs n B ([aZ tV (n+3),aZ s (n+3)]) p e (w.heap.size+2) k aK wr)) (λ_ R _=>len-(intOf R).toNat)
 case atStart=>exact⟨0,_,by omega,rfl,rfl,_,rfl,L.out,X.out⟩
 case round=>
  clear L X;obtain⟨k,v,bv,rfl,rfl,Y⟩:=hrel;obtain⟨t,q,i,W⟩:∃t:List (Tm (n+4)),Hid (t.length=k+2)/\Hid (ed (n+4) B (w.heap.size+2) t v e wr)/\Hid (aC (λa b=>ay (n+4) a (n+4) b) t (([aZ tV (n+3),aZ s (n+3)])++(p.take k).map (dG n))=true):=Y.out;clear Y;have K:=aq (aL.out wr i.out.1);have an:w.heap.size+2<=wr.heap.size:=by have:=i.out.1.size;have:=j.out.2;omega
  by_cases a3:k<len
  ·obtain⟨d,m⟩:∃d,p[k]?=some d:=⟨p[k]'(by rw[aB.out];exact a3),aG _⟩;have aO:=aq (lS (dG n) p k d m);obtain⟨a9,po,rfl,bA,⟨⟨ba,bb,bf,bg⟩,⟨bh,bi,bj,bk⟩,bl,bm,bc,bd,be⟩,aw⟩:=(kw (en (n+1)) (K.out.mono aY) a5.out).cl k d m;have ah:B<=wr.heap.size:=by omega
   have aR:=aq m
   have V:Hid (∀w1,aj wr w1->am 86 #[.agg #[ab d.1.1.1.1,ab d.1.1.1.2.1,af d.1.1.1.2.2,ae d.1.1.2.1.1 d.1.1.2.2.length d.1.1.2.1.2,ab d.1.2.1.1.1,ab d.1.2.1.1.2.1,af d.1.2.1.1.2.2,ae d.1.2.1.2.1.1 d.1.2.1.2.2.length d.1.2.1.2.1.2,ae d.2.1.1 d.2.2.length d.2.1.2,ab d.1.2.2.1.1,ab d.1.2.2.1.2.1,af d.1.2.2.1.2.2,ae d.1.2.2.2.1.1 d.1.2.2.2.2.length d.1.2.2.2.1.2]] w1 (iF B (n+4) (dG n d) w1)):=
    λw1 F=>wb n d B w1 ((en (n+1)).below (F.mono ah) aw) (aX.out d (aH aR.out)) (az ah F.size)
   clear aw m;generalize dG n d=bn at*;have bw:(0:Int)<=(k:Int):=by omega
   have bx:(k:Int)<(len:Int):=by omega
   have bB:a9<wr.heap.size:=by omega
   obtain⟨H,I,x⟩:=i.out.slice;rw[q.out]at x;subst x;go_wp2_with fail;refine(V.out _ aN).mono ?_;rintro D y ⟨f,rfl,C⟩;have J:Hid (aj wr y):=aN.trans (C.out.1.mono (by simp));have E:df (n+4) f=.agg #[ab f.1.1,ab f.1.2.1,af f.1.2.2,ae f.2.1.1 f.2.2.length f.2.1.2]:=rfl;rw[E];have aQ:=λ(o:Obj)(g c:Nat)(w4:World) a4 a2 a1=>aq (i.out.app q.out (by omega) an J.out f C.out.2.1 (C.out.2.2.1.mono λb Q=>by simp at Q;omega) (o:=o) (g:=g) (c:=c) (w4:=w4) a4 a2 a1);have bs:wr.heap.size<=y.heap.size:=J.out.size;clear E V ba bb bf bg bh bi bj bk bl bm bc bd be;go_wp2_with (at_builtin;refine wpList_append_lies _ rfl _ _ 26 rfl (w.heap.size+2) 28 a8 _ 4 56 underlying26 A.out.1 A.out.2.1 A.out.2.2.1 A.out.2.2.2 rfl (by decide) (ae H (k+2) I) (k+2) (t.flatMap (il (n+4))) (by simp[Act.eval]) (i.out.own q.out J.out _) ⟨y.heap.size,0,none⟩ 1 1 (il (n+4) f) (by simp[Act.eval]) rfl (Ah y (gg (n+4) f) rfl) (ul _ _) (by decide) (by unfold maxLen;omega) (by omega) (by simp;omega) (y.heap.size+1) (by simp) ?_;intro aW aU w4 aA ao al bz;have aP:=aQ _ aW aU w4 aA ao al;clear aA ao al);go_roundw
   case rel=>exact⟨k+1,_,by omega,by go_num,rfl,t++ [f],by have:=q.out;simp;omega,aP.out,by rw[aO.out,<-mN];exact iT _ _ _ _ _ W.out C.out.2.2.2⟩
   case measure=>simp[intOf];omega
  ·obtain rfl:k=len:=by omega
   obtain⟨H,I,x⟩:=i.out.slice;rw[q.out]at x;subst x;have r:=aq ((i.out.1.block (w.heap.size+1) (by omega)).trans O.out);have d0:wr.cell? ⟨w.heap.size+1,0,none⟩=some (ab 0):=au r.out 0;have d1:wr.cell? ⟨w.heap.size+1,1,none⟩=some (ab 0):=au r.out 1;have d2:wr.cell? ⟨w.heap.size+1,2,none⟩=some (af ⟨#[]⟩):=au r.out 2;have d3:wr.cell? ⟨w.heap.size+1,3,none⟩=some (ae none 0 0):=au r.out 3;have f0:=λG=>cQ r.out G;have u:w.heap.size+1<wr.heap.size:=by omega
   have aM:=λ(aS w':World) Q F a7=>aq (ed.tells (w:=w) (ys:=([aZ tV (n+3),aZ s (n+3)])++p.map (dG n)) (w':=w') (i.out.later (dX _) an (w1:=aS) Q) (by omega) (by have h:=W.out;rw[bu (by rw[aB.out];omega)]at h;exact h) F a7);clear r O;go_wp2_with (go_at_call 51;refine(fH _ _ _ _).mono ?_;rintro D S ⟨rfl,aJ⟩;have l:=aq (show aj wr S by rw[aJ];go_grown);clear aJ;replace d0:=(ar l.out _ _ u).trans d0;replace d1:=(ar l.out _ _ u).trans d1;replace d2:=(ar l.out _ _ u).trans d2;replace d3:=(ar l.out _ _ u).trans d3;replace f0:=λG=>(gF l.out _ G u).trans (f0 G));refine av (v:=.agg #[ab 4,ab 0,af ⟨#[]⟩,ae H (k+2) I]) (by simp[results,results50,go_sem,d0,d1,d2,d3]) rfl ?_;rw[a0.out];obtain⟨bo,bp,ag,U⟩:=(aM S (cW S (w.heap.size+1) 0 (ab 4) (ab 0) (af ⟨#[]⟩) (ae H (k+2) I)) l.out (zJ (by omega) (by omega) (ap _ _)) (dz (bq _ _ _ _).symm)).out (dM (K.out.trans (l.out.mono K.out.size)) (by omega));rw[q.out]at ag U;injection ag with aV br E;subst aV E;exact U
theorem rP(n:Nat)(b:Bh (n+1))(B:Nat)(w:World)(a:pC (n+1) B w b)(f:b.2.2.length<=6)(g:∀c∈b.2.2,c.2.2.length<=8)(h:B<=w.heap.size):am 50 #[.agg (oI (n+1) b).toArray] w (iF B (n+5) (dQ n b) w):=by
 obtain⟨i,⟨e,pc⟩,d⟩:=b;exact qA n i a.1 d d.length rfl f g e pc B w a.2.2 h _ rfl
def Qu(n B:Nat)(d:List (Tm (n+5)))(p:List (Bh (n+1)))(w0:World)(base k:Nat)(v:Value)(wr:World):Prop:=
 ∃a,a.length=k+1/\ed (n+5) B base a v w0 wr/\aC (λc b=>ay (n+5) c (n+5) b) a (d++(p.take k).map (dQ n))=true
theorem sN(n:Nat)(p:List (Bh (n+1)))(len:Nat)(ao:Hid (p.length=len))(ba:len<=7)(Y:Hid (∀b∈p,b.2.2.length<=6/\∀c∈b.2.2,c.2.2.length<=8))(a:Option Addr)(pc:Nat)(B:Nat)(w:World)(aX:Hid (fR (n+1) B w a p))(aR:B<=w.heap.size)(W:Tm (n+6))(aS:Hid (W=bK n p)):am 22 #[ae a len pc] w (iF B (n+6) W w):=by
 obtain⟨a0,al,aw,ax,aA⟩:=bP gh;have y:=aq (⟨al,aw,ax,aA⟩:_/\_/\_/\_);clear al aw ax aA;go_enter func22,ntmps22;go_wp2_with (go_at_call 49;refine(iG _ _).mono ?_;rintro A w1 ⟨rfl,rfl⟩);have K:=aq (aE w (.cells #[ab 0,ab 0,af ⟨#[]⟩,ae none 0 0] 28));have S:Hid (aC (λa b=>ay (n+5) a (n+5) b) [aZ nL (n+4)] ([aZ nL (n+4)]++(p.take 0).map (dQ n))=true):=by
  show _=true;simp[aC,dU]
 generalize L:w.alloc (.cells #[ab 0,ab 0,af ⟨#[]⟩,ae none 0 0] 28)=e;rw[L]at K;have s:Hid (aj w e/\e.heap.size=w.heap.size+1):=by
  subst L;exact⟨(ap _ _).alloc (ak _) _,by simp⟩
 have aF:Hid (∀wr,Below (w.heap.size+1) e wr->aj w wr):=λwr j=>s.out.1.trans (j.mono (by omega));clear L;have J:Hid (ed (n+5) B (w.heap.size+1) [aZ nL (n+4)] (ae (some ⟨w.heap.size+1+1,0,none⟩) 1 1) e ((e.alloc (.cells #[ab 2,ab 0,af ⟨#[99,111,100,101]⟩,ae none 0 0] 28)).alloc (.cells #[ab 2,ab 0,af ⟨#[99,111,100,101]⟩,ae none 0 0] 28))):=by
  have j:=fi.lit (T:=28) (k:=4) (B:=B) (base:=w.heap.size+1) (dX (n+5)) [aZ nL (n+4)] (w0:=e) (w1:=e.alloc (.cells #[ab 2,ab 0,af ⟨#[99,111,100,101]⟩,ae none 0 0] 28)) (cs:= #[ab 2,ab 0,af ⟨#[99,111,100,101]⟩,ae none 0 0]) rfl (pd _) (by show 1<=maxLen;unfold maxLen;omega) (by have:=s.out.2;simp;omega) ((ap _ _).alloc (by have:=s.out.2;omega) _) (λd l=>by
   simp only[ch,gw,gC]at l;subst l
   exact⟨g9 _ _ (nD _ (by decide)) _ _,oH _ _ _⟩)
  have A:(e.alloc (.cells #[ab 2,ab 0,af ⟨#[99,111,100,101]⟩,ae none 0 0] 28)).heap.size=w.heap.size+1+1:=by have:=s.out.2;simp;omega
  rw[A]at j;exact j
 generalize aa:(e.alloc _).alloc _=a4;rw[aa]at J;clear aa;go_loopw [3,10] (λv N wr=>∃(k:Nat)(aD:Value),k<=len/\N=ab k/\aD=v/\Hid (Qu n B ([aZ nL (n+4)]) p e (w.heap.size+1) k aD wr)) (λ_ N _=>len-(intOf N).toNat)
 case atStart=>exact⟨0,_,by omega,rfl,rfl,_,rfl,J.out,S.out⟩
 case round=>
  clear J S;obtain⟨k,v,bb,rfl,rfl,U⟩:=hrel;obtain⟨r,m,h,R⟩:∃r:List (Tm (n+5)),Hid (r.length=k+1)/\Hid (ed (n+5) B (w.heap.size+1) r v e wr)/\Hid (aC (λa b=>ay (n+5) a (n+5) b) r (([aZ nL (n+4)])++(p.take k).map (dQ n))=true):=U.out;clear U;have I:=aq (aF.out wr h.out.1);have ag:w.heap.size+1<=wr.heap.size:=by have:=h.out.1.size;have:=s.out.2;omega
  by_cases aV:k<len
  ·obtain⟨d,l⟩:∃d,p[k]?=some d:=⟨p[k]'(by rw[ao.out];exact aV),aG _⟩;have aJ:=aq (lS (dQ n) p k d l);obtain⟨a1,po,rfl,bf,⟨a2,a3⟩,ai⟩:=(fR.below (I.out.mono aR) aX.out).bh k d l;have Z:B<=wr.heap.size:=by omega
   have V:=aq l
   have Q:Hid (∀w1,aj wr w1->am 50 #[.agg #[af d.1,ae d.2.1.1 d.2.2.length d.2.1.2]] w1 (iF B (n+5) (dQ n d) w1)):=
    λw1 D=>rP n d B w1 ((dP (n+1)).below (D.mono Z) ai) (Y.out d (aH V.out)).1 (Y.out d (aH V.out)).2 (az Z D.size)
   clear ai l;generalize dQ n d=a5 at*;have bc:(0:Int)<=(k:Int):=by omega
   have bd:(k:Int)<(len:Int):=by omega
   have bg:a1<wr.heap.size:=by omega
   obtain⟨F,G,u⟩:=h.out.slice;rw[m.out]at u;subst u;go_wp2_with fail;refine(Q.out _ aN).mono ?_;rintro A x ⟨f,rfl,z⟩;have H:Hid (aj wr x):=aN.trans (z.out.1.mono (by simp));have C:df (n+5) f=.agg #[ab f.1.1,ab f.1.2.1,af f.1.2.2,ae f.2.1.1 f.2.2.length f.2.1.2]:=rfl;rw[C];have aL:=λ(o:Obj)(g c:Nat)(w4:World) aW aU aT=>aq (h.out.app m.out (by omega) ag H.out f z.out.2.1 (z.out.2.2.1.mono λb M=>by simp at M;omega) (o:=o) (g:=g) (c:=c) (w4:=w4) aW aU aT);have a9:wr.heap.size<=x.heap.size:=H.out.size;clear C Q a2 a3;go_wp2_with (at_builtin;refine wpList_append_lies _ rfl _ _ 26 rfl (w.heap.size+1) 28 a0 _ 4 56 underlying26 y.out.1 y.out.2.1 y.out.2.2.1 y.out.2.2.2 rfl (by decide) (ae F (k+1) G) (k+1) (r.flatMap (il (n+5))) (by simp[Act.eval]) (h.out.own m.out H.out _) ⟨x.heap.size,0,none⟩ 1 1 (il (n+5) f) (by simp[Act.eval]) rfl (Ah x (gg (n+5) f) rfl) (ul _ _) (by decide) (by unfold maxLen;omega) (by omega) (by simp;omega) (x.heap.size+1) (by simp) ?_;intro aQ aO w4 an ah ad be;have aK:=aL _ aQ aO w4 an ah ad;clear an ah ad);go_roundw
   case rel=>exact⟨k+1,_,by omega,by go_num,rfl,r++ [f],by have:=m.out;simp;omega,aK.out,by rw[aJ.out,<-mN];exact iT _ _ _ _ _ R.out z.out.2.2.2⟩
   case measure=>simp[intOf];omega
  ·obtain rfl:k=len:=by omega
   obtain⟨F,G,u⟩:=h.out.slice;rw[m.out]at u;subst u;have q:=aq ((h.out.1.block (w.heap.size) (by omega)).trans K.out);have d0:wr.cell? ⟨w.heap.size,0,none⟩=some (ab 0):=au q.out 0;have d1:wr.cell? ⟨w.heap.size,1,none⟩=some (ab 0):=au q.out 1;have d2:wr.cell? ⟨w.heap.size,2,none⟩=some (af ⟨#[]⟩):=au q.out 2;have d3:wr.cell? ⟨w.heap.size,3,none⟩=some (ae none 0 0):=au q.out 3;have f0:=λE=>cQ q.out E;have t:w.heap.size<wr.heap.size:=by omega
   have aI:=λ(aM w':World) M D aY=>aq (ed.tells (w:=w) (ys:=([aZ nL (n+4)])++p.map (dQ n)) (w':=w') (h.out.later (dX _) ag (w1:=aM) M) (by omega) (by have j:=R.out;rw[bu (by rw[ao.out];omega)]at j;exact j) D aY);clear q K;go_wp2_with (go_at_call 51;refine(fH _ _ _ _).mono ?_;rintro A O ⟨rfl,aB⟩;have i:=aq (show aj wr O by rw[aB];go_grown);clear aB;replace d0:=(ar i.out _ _ t).trans d0;replace d1:=(ar i.out _ _ t).trans d1;replace d2:=(ar i.out _ _ t).trans d2;replace d3:=(ar i.out _ _ t).trans d3;replace f0:=λE=>(gF i.out _ E t).trans (f0 E));refine av (v:=.agg #[ab 4,ab 0,af ⟨#[]⟩,ae F (k+1) G]) (by simp[results,results22,go_sem,d0,d1,d2,d3]) rfl ?_;rw[aS.out];obtain⟨a6,a7,X,P⟩:=(aI O (cW O (w.heap.size) 0 (ab 4) (ab 0) (af ⟨#[]⟩) (ae F (k+1) G)) i.out (zJ (by omega) (by omega) (ap _ _)) (dz (bq _ _ _ _).symm)).out (dM (I.out.trans (i.out.mono I.out.size)) (by omega));rw[m.out]at X P;injection X with aP a8 C;subst aP C;exact P
theorem tT(n:Nat)(p:List (Bh (n+1)))(a:Option Addr)(pc:Nat)(B:Nat)(w:World)(g:fR (n+1) B w a p)(d:p.length<=7)(e:∀b∈p,b.2.2.length<=6/\∀c∈b.2.2,c.2.2.length<=8)(f:B<=w.heap.size):am 22 #[ae a p.length pc] w (iF B (n+6) (bK n p) w):=
 sN n p p.length rfl d e a pc B w g f _ rfl
end Go.Proofs.YtmmahddlcldmiaaGreatDoor
