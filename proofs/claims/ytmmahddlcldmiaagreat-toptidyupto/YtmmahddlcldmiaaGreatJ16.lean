/- Proved here: plain facts and contracts. No condition but what each names. -/
import Derived.Test.YtmmahddlcldmiaaGreatJ15
namespace Go.Proofs.YtmmahddlcldmiaaGreat
open Go.RowKit Tryz
open Go.RowKit Go.Maps
set_option maxHeartbeats 1000000
set_option maxRecDepth 100000
variable{D:DataW Unit}{k room u:Int}{ws:List Wd}{nm:List ap}{e L base c g l len n o p q:Nat}{M:Nat->Prop}{f mv tv:Value}{h w w0 w1 w2 wA wr:ag}{s:ap}{a:aw}{d:cG}
theorem dM.inside{M:aR}(g:dM base d room ws nm M w):dM base d room ws nm (λb=>M b/\b<w.heap.size) w:=by
 obtain⟨o,m,n,e,f,c,h,i,j,k⟩:=g;refine⟨o,m,n,e,f,c,⟨h,e.lt⟩,λb a=>⟨i b a,(f.lt b a).2⟩,λb a=>⟨j b a,(c.1.lt b a).2⟩,λb a=>⟨k b a,?_⟩⟩;rcases c.2.2 with⟨rfl,_⟩|⟨q,p,rfl,_,l,_⟩
 ·simp[mapBlock]at a
 ·simp only[mapBlock]at a;obtain rfl:=aA a;exact l.lt
theorem dM.later{M:aR}(a:dM base d room ws nm M w)(c:ak w wA):dM base d room ws nm (λb=>M b/\b<w.heap.size) wA:=
 a.inside.kept (bm c (λ_=>False)) λ_ _ _ a=>a
theorem Bn{M:aR}(a:mh base d room ws nm (λb=>M b/\b<w.heap.size) wA w2)(i:ak w wA)(n:w.heap.size+2<=wA.heap.size)(v0 v1:av):mh base d room ws nm M w ((w2.setCell ⟨w.heap.size+1,0,none⟩ v0).setCell ⟨w.heap.size+1,1,none⟩ v1):=by
 obtain⟨f,g⟩:=a;have k:=bz w2 (w.heap.size+1) 0 v0;have l:=bz (w2.setCell ⟨w.heap.size+1,0,none⟩ v0) (w.heap.size+1) 1 v1;have e:=k.trans l (λb _ a=>a);refine⟨(f.kept e ?_).mono ?_,?_⟩
 ·rintro b (⟨_,c⟩|c) _ m
  ·omega
  ·omega
 ·rintro b (⟨j,_⟩|c)
  ·exact ai j
  ·exact aj (by omega)
 ·have h:bZ (λb=>(M b/\b<w.heap.size)\/b=w.heap.size+1) wA _:=(g.mono (λb a=>ai a)).trans e (λb _ a=>aj a);refine(bm i M).trans h ?_;rintro b c (a|a)
  ·exact a.1
  ·omega
theorem vj{M:aR}(e:mh base d room ws nm (λb=>M b/\b<w.heap.size) wA w2):∀b,w.heap.size<=b->b<wA.heap.size->∀o,w2.cell? ⟨b,o,none⟩=wA.cell? ⟨b,o,none⟩/\w2.frozen? ⟨b,o,none⟩=wA.frozen? ⟨b,o,none⟩:=by
 intro b g f o;have c:=e.2.block b f (λe=>by omega);exact⟨bD c o,js (a:=⟨b,o,none⟩) c⟩
theorem JX(d:cG)(k u:Int)(s:ap)(a:aw)(l c:Nat)(w:ag)(f:¬k=2)(g:¬k=4):am 112 #[.pointer (some ⟨d.b,d.o,none⟩),.agg #[ab k,ab u,af s,ae a l c]] w λe w'=>e=.returned (.agg #[ab k,ab u])/\ak w w':=by
 have h:(k==2)=false:=by simpa using f
 have i:(k==4)=false:=by simpa using g
 go_enter func112,ntmps112;go_wp2_with fail;exact az (v:=.agg #[ab k,ab u]) (by simp[results,results112,go_sem]) rfl ⟨rfl,by go_grown⟩
theorem JW(base:Nat)(f:cG)(room:Int)(ws:List Wd)(nm:List ap)(M:aR)(u:Int)(s:ap)(a:aw)(l c:Nat)(w:ag)(t:Hid (dM base f room ws nm M w))(C:base<=w.heap.size)(x:nm.length<=100000)(y:s.size<=2048):am 112 #[.pointer (some ⟨f.b,f.o,none⟩),.agg #[ab 2,ab u,af s,ae a l c]] w λe w'=>e=.returned (.agg #[ab 2,ab (lB (eT nm s) s:Int)])/\Hid (mh base f room ws (eT nm s) M w w'):=by
 generalize n:lB (eT nm s) s=j;go_enter func112,ntmps112;go_wp2_with fail;generalize i:(w.alloc (Obj.cells #[Value.int IntKind.i64 2,Value.int IntKind.i64 u,Value.string s,Value.slice a l c] 31)).alloc (Obj.cells #[Value.int IntKind.i64 0,Value.int IntKind.i64 0] 109)=wA;have d:Hid (ak w wA.drew/\wA.drew.heap.size=w.heap.size+2):=by
  subst i;exact⟨(((aq _ _).alloc (ao _) _).alloc (by simp) _).drew,by simp[World.drew]⟩
 have z:wA.cell? ⟨w.heap.size,2,none⟩=some (af s):=by subst i;simp[go_sem]
 have h:Hid ((wA.cell? ⟨w.heap.size+1,0,none⟩=some (ab 0)/\wA.cell? ⟨w.heap.size+1,1,none⟩=some (ab 0))/\wA.frozen? ⟨w.heap.size+1,0,none⟩=false/\wA.frozen? ⟨w.heap.size+1,1,none⟩=false):=by subst i;simp[Hid,go_sem]
 have p:Hid (am 147 #[.pointer (some ⟨f.b,f.o+2,none⟩),af s] wA.drew λe w'=>e=.returned (ab j)/\Hid (mh base f room ws (eT nm s) (λb=>M b/\b<w.heap.size) wA.drew w')):=by
  have m:=ME base f room ws nm _ s wA.drew (t.later d.1) (by have:=d.2;omega) x y;rw[n]at m;exact m
 clear i n;go_region_held3 (λw'=>w'.cell? ⟨w.heap.size,2,none⟩=some (af s)) (go_keep) ((go_at_call 147;refine p.mono ?_;rintro e E ⟨rfl,k⟩;have g:=au (vj k);have D:=λo=>(g w.heap.size (ao _) (by have:=d.2;omega) o).1;have r:=(g (w.heap.size+1) (by omega) (by have:=d.2;omega) 0).1.trans h.1.1;have d1:=(g (w.heap.size+1) (by omega) (by have:=d.2;omega) 1).1.trans h.1.2;have A:=(g (w.heap.size+1) (by omega) (by have:=d.2;omega) 0).2.trans h.2.1;have B:=(g (w.heap.size+1) (by omega) (by have:=d.2;omega) 1).2.trans h.2.2));have q:=au (Bn k d.1 (dF d.2.symm) (ab 2) (ab j));go_wp2_with fail;exact az (v:=.agg #[ab 2,ab j]) (by simp[results,results112,go_sem,r,d1]) rfl ⟨rfl,q⟩
def IS(x:Wd):av:=.agg #[ab x.1,ab x.2]
def OZ(n:Nat):Prop:=∀(x:Tm n)(base:Nat)(a:cG)(room:Int)(ws:List Wd)(nm:List ap)(M:aR)(w:ag),dM base a room ws nm M w->In w.heap.size w n x->cr (λb=>¬M b) n x->base<=w.heap.size->aI ⟨n,x⟩->ws.length+2*(aC n x).length<=99000->nm.length+(aC n x).length<=99000->
 am 112 #[.pointer (some ⟨a.b,a.o,none⟩),dw n x] w λe w'=>e=.returned (IS (bi n x ws nm).1)/\Hid (mh base a room (bi n x ws nm).2.1 (bi n x ws nm).2.2 M w w')
def yF(n:Nat)(p:List (Tm n))(len base:Nat)(c:cG)(room:Int)(ws:List Wd)(nm:List ap)(M:aR)(g:Nat)(w a:ag)(k:Nat)(wr:ag):Prop:=
 wr.ownsRow g 109 2 (ae (some ⟨g,0,none⟩) len len) len (bk ((bQ (bi n) (p.take k) ws nm).1++List.replicate (len-k) (0,0)))/\
 dM base c room (bQ (bi n) (p.take k) ws nm).2.1 (bQ (bi n) (p.take k) ws nm).2.2 (λb=>(M b/\b<w.heap.size)\/a.heap.size<=b) wr/\
 bZ (λb=>(M b/\b<w.heap.size)\/b=g) a wr
theorem vv(n:Nat):(madeCells #[ab 0,ab 0] (n*2)).toList=bk (List.replicate n (0,0)):=by
 apply List.ext_getElem?;intro b;by_cases d:b<n*2
 ·obtain⟨k,a,e,rfl⟩:∃k a,a<2/\b=k*2+a:=⟨b / 2,b % 2,Nat.mod_lt _ (by decide),by omega⟩;have f:k<n:=by omega
  rw[ji _ k (0,0) (by simp[f]) a e];have c:(madeCells #[ab 0,ab 0] (n*2))[k*2+a]?=some ((#[ab 0,ab 0]:Array av)[(k*2+a) % 2]!):=by
   simp[madeCells,d]
  rw[mT,c,show (k*2+a) % 2=a by omega];have:a=0\/a=1:=by omega
  rcases this with rfl|rfl<;>rfl
 ·rw[eN (by simp[size_madeCells];omega),eN (by rw[cI];simp;omega)]
theorem qN:(l:List Wd)->(i:Nat)->(x:Wd)->i<l.length->((bk l).set (i*2) (ab x.1)).set (i*2+1) (ab x.2)=bk (l.set i x)
 | [],i,x,h=>by simp at h
 | y::l,0,x,_=>by simp[bk,p9]
 | y::l,i+1,x,h=>by
  have ih:=qN l i x (by simpa using h);have e:bk (y::l)=p9 y++bk l:=rfl;have b:bk ((y::l).set (i+1) x)=p9 y++bk (l.set i x):=rfl;have a:(p9 y).length=2:=rfl;rw[e,b,<-ih];rw[iE _ _ (by rw[a];omega),iE _ _ (by rw[a];omega),a];rw[show (i+1)*2-2=i*2 by omega,show (i+1)*2+1-2=i*2+1 by omega]
theorem JZ{p:List (Tm n)}{M:aR}{e t1 t2 a:av}(g:dM base d room ws nm M w)(f:w0.ownsRow (w.heap.size+2) 109 2 (.slice (some ⟨((w.alloc (.cells #[e,t1,t2,a] 31)).alloc (.cells #[ab 0,ab 0] 109)).heap.size,0,none⟩) len len) len (madeCells (Value.agg #[ab 0,ab 0]).cells (len*2)).toList)(c:((w.alloc (.cells #[e,t1,t2,a] 31)).alloc (.cells #[ab 0,ab 0] 109)).grownBy w0 none):(yF n p len base d room ws nm M (w.heap.size+2) w w0 0 w0/\ak w w0/\w.heap.size+2<w0.heap.size)/\w0.cell? ⟨w.heap.size,3,none⟩=some a/\ (w0.cell? ⟨w.heap.size+1,0,none⟩=some (ab 0)/\w0.cell? ⟨w.heap.size+1,1,none⟩=some (ab 0))/\w0.frozen? ⟨w.heap.size+1,0,none⟩=false/\w0.frozen? ⟨w.heap.size+1,1,none⟩=false:=by
 have l:((w.alloc (.cells #[e,t1,t2,a] 31)).alloc (.cells #[ab 0,ab 0] 109)).heap.size=w.heap.size+2:=by simp
 rw[l]at f;have q:ak w ((w.alloc (.cells #[e,t1,t2,a] 31)).alloc (.cells #[ab 0,ab 0] 109)):=((aq _ _).alloc (ao _) _).alloc (by simp) _;have i:Below (w.heap.size+2) ((w.alloc (.cells #[e,t1,t2,a] 31)).alloc (.cells #[ab 0,ab 0] 109)) w0:=⟨c.os,c.tape,c.output,c.size,λb h=>c.block b (by omega) (by simp)⟩;have h:=q.trans (i.mono (by omega));have j:=ax i;have k:=gM i;refine⟨⟨⟨?_,?_,bZ.refl _ _⟩,h,(f.lt _ rfl).2⟩,?_,⟨?_,?_⟩,?_,?_⟩
 ·simp only[nd,bQ,jO,Nat.sub_zero];have m:=vv len;have o:(Value.agg #[ab 0,ab 0]).cells= #[ab 0,ab 0]:=rfl;rw[o,m]at f;exact f
 ·simp only[nd,bQ];exact(g.later h).mono λb g=>ai g
 ·rw[j _ _ (by omega)];simp[go_sem]
 ·rw[j _ _ (by omega)];simp[go_sem]
 ·rw[j _ _ (by omega)];simp[go_sem]
 ·rw[k _ _ (by omega)];simp[go_sem]
 ·rw[k _ _ (by omega)];simp[go_sem]
theorem o8(b:w.ownsRow base 109 2 (ae (some ⟨g,0,none⟩) L c) L (bk ws)):∀j,w.frozen? ⟨g,j,none⟩=false:=by
 intro j;rcases b.2 with⟨d,_⟩|⟨l,cap,h,f,m,e,_⟩
 ·simp at d
 ·injection f with a i k;injection a with a;injection a with a _;subst a;simp[World.frozen?,e]
theorem yF.step{p:List (Tm n)}{M:aR}{k:Nat}(H:yF n p len base d room ws nm M g w h k wr)(G:w.heap.size<=g)(I:g<h.heap.size)(K:k<len)(L:p.length=len){x:Tm n}(A:p[k]?=some x)(j:ak wr w1)(z:mh base d room (bi n x (bQ (bi n) (p.take k) ws nm).2.1 (bQ (bi n) (p.take k) ws nm).2.2).2.1 (bi n x (bQ (bi n) (p.take k) ws nm).2.1 (bQ (bi n) (p.take k) ws nm).2.2).2.2 (λb=>((M b/\b<w.heap.size)\/h.heap.size<=b)/\b<wr.heap.size) w1 w2):yF n p len base d room ws nm M g w h (k+1) ((w2.setCell ⟨g,k*2,none⟩ (ab (bi n x (bQ (bi n) (p.take k) ws nm).2.1 (bQ (bi n) (p.take k) ws nm).2.2).1.1)).setCell ⟨g,k*2+1,none⟩ (ab (bi n x (bQ (bi n) (p.take k) ws nm).2.1 (bQ (bi n) (p.take k) ws nm).2.2).1.2))/\ (w2.cell? ⟨g,k*2,none⟩=some (ab 0)/\w2.cell? ⟨g,k*2+1,none⟩=some (ab 0))/\w2.frozen? ⟨g,k*2,none⟩=false/\w2.frozen? ⟨g,k*2+1,none⟩=false:=by
 obtain⟨m,E,o⟩:=H;obtain⟨u,q⟩:=z;have J:g<wr.heap.size:=(m.lt g rfl).2;have N:=j.size;have O:=o.size;have r:bQ (bi n) (p.take (k+1)) ws nm=((bQ (bi n) (p.take k) ws nm).1++ [(bi n x (bQ (bi n) (p.take k) ws nm).2.1 (bQ (bi n) (p.take k) ws nm).2.2).1],(bi n x (bQ (bi n) (p.take k) ws nm).2.1 (bQ (bi n) (p.take k) ws nm).2.2).2):=by
  rw[dz,A];exact GL _ _ _ _ _
 have s:(bQ (bi n) (p.take k) ws nm).1.length=k:=by rw[gT,dL];omega
 have f:w2.ownsRow g 109 2 (ae (some ⟨g,0,none⟩) len len) len (bk ((bQ (bi n) (p.take k) ws nm).1++List.replicate (len-k) (0,0))):=by
  refine ee (dY m j) q λb i=>?_;simp only[Value.ownBlock]at i;obtain rfl:=aA i;omega
 generalize bQ (bi n) (p.take k) ws nm=e at*;generalize bi n x e.2.1 e.2.2=c at*;have B:(e.1++List.replicate (len-k) (0,0))[k]?=some ((0,0):Wd):=by
  rw[eq (by omega),s,hU,List.getElem?_replicate];simp;omega
 have C:=bz w2 g (k*2) (ab c.1.1);have D:=bz (w2.setCell ⟨g,k*2,none⟩ (ab c.1.1)) g (k*2+1) (ab c.1.2);have t:=C.trans D (λb _ a=>a);refine⟨⟨?_,?_,?_⟩,jk f k (0,0) B,o8 f _,o8 f _⟩
 ·rw[r];have l:=jw (jw f (k*2) (ab c.1.1)) (k*2+1) (ab c.1.2);rw[qN _ k c.1 (by simp;omega)]at l;have es:(e.1++List.replicate (len-k) ((0,0):Wd)).set k c.1=(e.1++ [c.1])++List.replicate (len-(k+1)) (0,0):=by
   rw[iE _ _ (by omega)];have:len-k=(len-(k+1))+1:=by omega
   rw[this,List.replicate_succ];simp[s]
  rw[es]at l;exact l
 ·rw[r];refine(u.kept t ?_).mono ?_
  ·rintro b (⟨a,_⟩|a) _ i<;>omega
  ·rintro b (⟨a,_⟩|a)
   ·exact a
   ·exact aj (by omega)
 ·have v:bZ (λb=>(M b/\b<w.heap.size)\/b=g) h w1:=o.trans (bm j (λ_=>False)) (λ_ _ a=>a.elim)
  have y:bZ (λb=>(M b/\b<w.heap.size)\/b=g) h w2:=v.trans q (λb F a=>by
   rcases a.1 with a|a
   ·exact ai a
   ·omega)
  exact y.trans t (λb _ a=>aj a)
theorem J0{p:List (Tm n)}{M:aR}{k:Nat}(H:yF n p len base d room ws nm M g w h k wr)(t:w.heap.size<g)(u:g<h.heap.size)(i:ak w h){b:Nat}(j:b<w.heap.size)(q:¬M b){x:Tm n}(m:dH w b o n x)(e:In w.heap.size w n x)(f:cr (λb=>¬M b) n x):dH wr b o n x/\In w.heap.size wr n x/\cr (λb=>¬(((M b/\b<w.heap.size)\/h.heap.size<=b)/\b<wr.heap.size)) n x:=by
 have l:∀a,¬M a/\a<w.heap.size->wr.heap[a]?=h.heap[a]? :=λa r=>H.2.2.block a (by omega) (by rintro (c|c);exact r.1 c.1;omega);refine⟨(m.below i j).block (l b ⟨q,j⟩),In.off l (In.offB f e) (e.below i),(In.offB f e).mono ?_⟩;rintro a ⟨s,v⟩ ⟨c|c,_⟩
 ·exact s c.1
 ·omega
theorem JY{p:List (Tm n)}{M:aR}(H:yF n p len base d room ws nm M g w h len wr)(E:p.length=len)(C:g=w.heap.size+2)(D:g<h.heap.size)(m:ak w h):dM base d room (bQ (bi n) p ws nm).2.1 (bQ (bi n) p ws nm).2.2 (λb=>((M b/\b<w.heap.size)\/h.heap.size<=b)) wr/\(∀w1,bZ (λb=>((M b/\b<w.heap.size)\/h.heap.size<=b)) wr w1->fm w1 (bQ (bi n) p ws nm).1 (some ⟨g,0,none⟩))/\ (∀o,wr.cell? ⟨w.heap.size+1,o,none⟩=h.cell? ⟨w.heap.size+1,o,none⟩/\wr.frozen? ⟨w.heap.size+1,o,none⟩=h.frozen? ⟨w.heap.size+1,o,none⟩)/\ ∀k j w2,mh base d room k j (λb=>((M b/\b<w.heap.size)\/h.heap.size<=b)) wr w2-> (∀o,w2.cell? ⟨w.heap.size+1,o,none⟩=wr.cell? ⟨w.heap.size+1,o,none⟩/\w2.frozen? ⟨w.heap.size+1,o,none⟩=wr.frozen? ⟨w.heap.size+1,o,none⟩)/\ ∀v0 v1,mh base d room k j M w ((w2.setCell ⟨w.heap.size+1,0,none⟩ v0).setCell ⟨w.heap.size+1,1,none⟩ v1):=by
 obtain⟨f,l,i⟩:=H;rw[bF (by omega)]at f l;rw[hU,nb,eK]at f;have F:=i.size;refine⟨l,λw1 x=>aj ⟨_,rfl,λy B v=>?_⟩,λo=>?_,λk j w2 q=>⟨λo=>?_,λv0 v1=>?_⟩⟩
 ·have:=(ee f x (λb e=>by
    simp only[Value.ownBlock]at e;obtain rfl:=aA e
    omega)).cells (g:=g) rfl y B v
  exact this
 ·have e:=i.block (w.heap.size+1) (by omega) (by omega);exact⟨bD e o,js (a:=⟨w.heap.size+1,o,none⟩) e⟩
 ·have e:=q.2.block (w.heap.size+1) (by omega) (by omega);exact⟨bD e o,js (a:=⟨w.heap.size+1,o,none⟩) e⟩
 ·obtain⟨t,u⟩:=q;have z:=bz w2 (w.heap.size+1) 0 v0;have A:=bz (w2.setCell ⟨w.heap.size+1,0,none⟩ v0) (w.heap.size+1) 1 v1;have s:=z.trans A (λb _ c=>c);refine⟨(t.kept s ?_).mono ?_,?_⟩
  ·rintro b (c|c) _ e<;>omega
  ·rintro b ((c|c)|c)
   ·exact ai c.1
   ·exact aj (by omega)
   ·exact aj (by omega)
  ·refine(((bm m M).trans i ?_).trans u ?_).trans s ?_
   ·rintro b r (c|c)
    ·exact c.1
    ·omega
   ·rintro b r (c|c)
    ·exact c.1
    ·have:=m.size;omega
   ·intro b r c;omega
theorem vm(n:Nat)(l:List (Tm n))(ws:List Wd)(nm:List ap):(bQ (bi n) l ws nm).2.1.length<=ws.length+2*(l.flatMap λy=>aC n y).length/\(bQ (bi n) l ws nm).2.2.length<=nm.length+(l.flatMap λy=>aC n y).length:=by
 induction l generalizing ws nm with
 | nil=>simp[bQ]
 | cons y l ih=>
  obtain⟨a,b⟩:=iV n y ws nm;obtain⟨d,e⟩:=ih (bi n y ws nm).2.1 (bi n y ws nm).2.2;have c:=(fh n y).2;simp only[bQ,bK,bw];exact⟨by omega,by omega⟩
theorem Bp(n:Nat)(p:List (Tm n))(k:Nat)(x:Tm n)(d:p[k]?=some x):((p.take k).flatMap λy=>aC n y).length+(aC n x).length<=(p.flatMap λy=>aC n y).length:=by
 have b:=aX.1 d;obtain⟨c,rfl⟩:=b;have a:p=p.take k++p[k]::p.drop (k+1):=by
  rw[<-eM c,gZ]
 conv=>rhs;rw[a]
 simp only[kO,bK,bw];omega
theorem Mx(n:Nat)(ih:OZ n)(base:Nat)(d:cG)(room:Int)(ws:List Wd)(nm:List ap)(M:aR)(u:Int)(s:ap)(a:aw)(len pc:Nat)(p:List (Tm n))(D:Hid (p.length=len))(w:ag)(ai:Hid (dM base d room ws nm M w))(aH:len<=8)(aB:base<=w.heap.size)(G:Hid (p=[]\/∃b o,a=some ⟨b,o,none⟩/\b<w.heap.size/\¬M b/\∀(i:Nat)(y:Tm n),p[i]?=some y->dH w b (o+i*4) n y/\In w.heap.size w n y/\cr (λb=>¬M b) n y))(T:Hid (∀y∈p,aI ⟨n,y⟩))(H:Hid (ws.length+2*(p.flatMap λy=>aC n y).length<=99000))(Q:Hid (nm.length+(p.flatMap λy=>aC n y).length<=99000)):am 112 #[.pointer (some ⟨d.b,d.o,none⟩),.agg #[ab 4,ab u,af s,ae a len pc]] w λe w'=>e=.returned (IS (4,((bQ (bi n) p ws nm).2.1.length:Int)))/\Hid (mh base d room ((bQ (bi n) p ws nm).2.1++(0,(len:Int))::(bQ (bi n) p ws nm).1) (bQ (bi n) p ws nm).2.2 M w w'):=by
 obtain⟨al,N,U,V,W⟩:=bW lp;go_enter func112,ntmps112;go_wp2_with (at_make;refine kY _ rfl _ _ 100 rfl (w.heap.size+2) 109 al _ 2 underlying100 N U V _ _ _ _ len rfl rfl rfl rfl (by rw[W];omega) (by unfold maxLen;omega) (by simp) ?_;intro z R L;have l:=au (JZ (p:=p) ai R L);have ay:=l.2.1;clear R L);clear N U V W;obtain⟨c,C⟩:∃c,w.heap.size+1+1=c:=⟨_,rfl⟩;have I:Hid (yF n p len base d room ws nm M c w z 0 z):=by subst C;exact l.1.1
 have F:c<z.heap.size:=by subst C;exact l.1.2.2
 rw[C];go_loopw [28] (λi wr=>∃k:Nat,k<=len/\i=ab k/\Hid (yF n p len base d room ws nm M c w z k wr)) (λi _=>len-(intOf i).toNat)
 case atStart=>exact⟨0,by omega,rfl,I⟩
 case round=>
  clear I;obtain⟨k,aE,rfl,g⟩:=hrel;by_cases O:k<len
  ·obtain⟨f,m⟩:∃f,p[k]?=some f:=⟨p[k]'(by rw[D.out];exact O),aM _⟩;obtain⟨b,o,rfl,aj,P,S⟩:∃b o,a=some ⟨b,o,none⟩/\b<w.heap.size/\¬M b/\∀(i:Nat)(y:Tm n),p[i]?=some y->dH w b (o+i*4) n y/\In w.heap.size w n y/\cr (λb=>¬M b) n y:=by
    rcases G.out with e|e
    ·rw[e]at m;simp at m
    ·exact e
   obtain⟨X,Y,Z⟩:=S k f m;obtain⟨y1,y2,aa⟩:=J0 g (by omega) F l.1.2.1 aj P X Y Z;have aD:c<wr.heap.size:=(g.1.lt c rfl).2;have aO:=g.2.2.size;cases n with
   | zero=>exact y1.elim
   | succ n=>
   obtain⟨x,q⟩:∃x:Wd,Hid (∀E,ak wr E->am 112 #[.pointer (some ⟨d.b,d.o,none⟩),.agg #[ab f.1.1,ab f.1.2.1,af f.1.2.2,ae f.2.1.1 f.2.2.length f.2.1.2]] E λe h=>e=.returned (.agg #[ab x.1,ab x.2])/\
       Hid (yF (n+1) p len base d room ws nm M c w z (k+1) ((h.setCell ⟨c,k*2,none⟩ (ab x.1)).setCell ⟨c,k*2+1,none⟩ (ab x.2))/\
        (h.cell? ⟨c,k*2,none⟩=some (ab 0)/\h.cell? ⟨c,k*2+1,none⟩=some (ab 0))/\h.frozen? ⟨c,k*2,none⟩=false/\h.frozen? ⟨c,k*2+1,none⟩=false)):=by
    refine⟨(bi (n+1) f (bQ (bi (n+1)) (p.take k) ws nm).2.1 (bQ (bi (n+1)) (p.take k) ws nm).2.2).1,λE B=>?_⟩;have aP:=vm (n+1) (p.take k) ws nm;have aQ:=Bp (n+1) p k f m;have aL:=H.out;have aJ:=Q.out;have aK:=B.size;refine(ih f base d room _ _ _ E (g.2.1.later B) ((y2.below (B.mono (by omega))).mono (by omega)) aa (by omega) (T f (aN m)) (by omega) (by omega)).mono ?_;rintro e h ⟨rfl,A⟩;exact⟨rfl,g.step (by omega) F O D m B A⟩
   obtain⟨an,ar,av,ax⟩:=y1;clear ih g G S X Y Z y2 aa m P H Q T;generalize f.2.2.length=aS at*;have aF:(0:Int)<=(k:Int):=by omega
   have aG:(k:Int)<(len:Int):=by omega
   have aA:b<wr.heap.size:=by omega
   go_wp2_with fail;refine(q _ ((aq _ _).alloc (ao _) _)).mono ?_;rintro e h ⟨rfl,J⟩;obtain⟨⟨K,d1⟩,ad,ah⟩:=J.out.2;clear q an ar av ax;go_wp2_with fail;go_roundw
   case rel=>exact⟨k+1,by omega,by go_num,J.1⟩
   case measure=>simp[intOf];omega
  ·obtain rfl:k=len:=by omega
   have j:=au (JY g D C.symm F l.1.2.1)
   have q:Hid (am 148 #[.pointer (some ⟨d.b,d.o+1,none⟩),ae (some ⟨c,0,none⟩) k k] wr λe w'=>e=.returned (.agg #[ab 4,ab (bQ (bi n) p ws nm).2.1.length])/\Hid (mh base d room ((bQ (bi n) p ws nm).2.1++(0,(k:Int))::(bQ (bi n) p ws nm).1) (bQ (bi n) p ws nm).2.2 _ wr w')):=
    PR base d room (bQ (bi n) p ws nm).2.1 (bQ (bi n) p ws nm).2.2 _ (bQ (bi n) p ws nm).1 k k (some ⟨c,0,none⟩) wr j.1 (by have:=g.2.2.size;omega) (by have:=(vm n p ws nm).1;have:=H.out;omega) (by rw[gT];exact D) (by omega) j.2.1
   have t:=l.2.2;clear g l ih G;go_wp2_with fail;refine q.mono ?_;rintro e h ⟨rfl,A⟩;have r:=au (j.2.2.2 _ _ h A);have K:=((r.1 0).1.trans (j.2.2.1 0).1).trans t.1.1;have d1:=((r.1 1).1.trans (j.2.2.1 1).1).trans t.1.2;have ad:=((r.1 0).2.trans (j.2.2.1 0).2).trans t.2.1;have ah:=((r.1 1).2.trans (j.2.2.1 1).2).trans t.2.2;clear q j A t;go_wp2_with fail;exact az (v:=.agg #[ab 4,ab ((bQ (bi n) p ws nm).2.1.length:Int)]) (by simp[results,results112,go_sem,K,d1]) rfl ⟨rfl,r.2 _ _⟩
theorem GK{M:aR}{w':ag}(a:dM base d room ws nm M w)(b:ak w w'):mh base d room ws nm M w w':=
 ⟨(a.later b).mono λ_ a=>ai a.1,bm b M⟩
theorem Mw(n:Nat):OZ n:=by
 induction n with
 | zero=>intro a t p room d c s q _ w;exact w.elim
 | succ n ih=>
  intro a t p room d c s q u w k y A O J;have H:=w;obtain⟨⟨Q,R,N,M,L⟩,h⟩:=H;have z:=A (bI n a) (by simp[aC,bI]);have F:a.2.2.length<=8:=mB (bI n a) z;have G:a.1.2.2.size<=2048:=by have:=sD (bI n a) z;simp only[bI]at this;omega
  have K:(aC (n+1) a).length=1+(a.2.2.flatMap λf=>aC n f).length:=by simp[aC];omega
  by_cases g:a.1.1=2
  ·have e:bi (n+1) a d c=((2,(lB (eT c a.1.2.2) a.1.2.2:Int)),d,eT c a.1.2.2):=by simp only[bi,if_pos g]
   rw[e];have j:=JW t p room d c s a.1.2.1 a.1.2.2 a.2.1.1 a.2.2.length a.2.1.2 q u y (by omega) G;rw[<-g]at j;refine j.mono ?_;rintro e B ⟨rfl,r⟩;exact⟨by rw[g];rfl,r⟩
  ·by_cases i:a.1.1=4
   ·have e:bi (n+1) a d c=((4,((bQ (bi n) a.2.2 d c).2.1.length:Int)),(bQ (bi n) a.2.2 d c).2.1++(0,(a.2.2.length:Int))::(bQ (bi n) a.2.2 d c).1,(bQ (bi n) a.2.2 d c).2.2):=by simp only[bi,if_neg g,if_pos i]
    rw[e];have j:=Mx n ih t p room d c s a.1.2.1 a.1.2.2 a.2.1.1 a.2.2.length a.2.1.2 a.2.2 rfl q u F y ?_ (λf l=>bf n a f A l) (by unfold Hid;omega) (by unfold Hid;omega)
    ·rw[<-i]at j;refine j.mono ?_;rintro e B ⟨rfl,r⟩;exact⟨by rw[i],r⟩
    ·rcases h with h|⟨b,o,e,v,h⟩
     ·exact ai h
     ·rcases k with k|⟨I,P,m,E,k⟩
      ·exact ai k
      ·rw[e]at m;injection m with m;injection m with C D;subst C D;exact aj ⟨b,o,e,v,E,λx f l=>⟨(h x f l).1,(h x f l).2,k x f l⟩⟩
   ·have e:bi (n+1) a d c=((a.1.1,a.1.2.1),d,c):=by simp only[bi,if_neg g,if_neg i]
    rw[e];refine(JX p a.1.1 a.1.2.1 a.1.2.2 a.2.1.1 a.2.2.length a.2.1.2 q g i).mono ?_;rintro e B ⟨rfl,v⟩;exact⟨rfl,GK u v⟩
def dN(ws:List Wd)(nm:List ap):(n:Nat)->Tm n->Wd->Prop
 | 0,_,_=>False
 | n+1,x,v=>(x.1.1=2->∃i:Nat,v=(2,(i:Int))/\nm[i]?=some x.1.2.2)/\
    (x.1.1=4->∃p:Nat,v=(4,(p:Int))/\ws[p]?=some (0,(x.2.2.length:Int))/\p+1+x.2.2.length<=ws.length/\∀(i:Nat)(y:Tm n),x.2.2[i]?=some y->∃u,ws[p+1+i]?=some u/\dN ws nm n y u)/\
    (x.1.1≠2->x.1.1≠4->v=(x.1.1,x.1.2.1))
def eW(w:ag)(vs:List Wd)(a:aw):Prop:=vs=[]\/∃b o,a=some ⟨b,o,none⟩/\b<w.heap.size/\∀(i:Nat)(v:Wd),vs[i]?=some v->w.cell? ⟨b,o+i*2,none⟩=some (ab v.1)/\w.cell? ⟨b,o+i*2+1,none⟩=some (ab v.2)
def PH(n:Nat):Prop:=∀(x:Tm n)(v:Wd)(base:Nat)(a:cG)(room:Int)(ws:List Wd)(nm:List ap)(M:aR)(w:ag),dM base a room ws nm M w->ws.length<=100000->nm.length<=100000->dN ws nm n x v->aI ⟨n,x⟩->
 am 140 #[.pointer (some ⟨a.b,a.o,none⟩),IS v] w λe w'=>∃y:Tm n,e=.returned (dw n y)/\Hid (ak w w'/\In w'.heap.size w' n y/\cr (λq=>w.heap.size<=q) n y/\aB n y n x=true)
def qS(q:Nat)(w:ag):Prop:=w.heap[q]?=some (.cells #[ab 0,ab 0,af .empty,ae none 0 0] 31)
theorem qS.kept{q:Nat}{w w':ag}(a:qS q w)(k:w'.heap[q]?=w.heap[q]?):qS q w':=k.trans a
theorem qS.cells{q:Nat}{w:ag}(a:qS q w):(w.cell? ⟨q,0,none⟩=some (ab 0)/\w.cell? ⟨q,1,none⟩=some (ab 0)/\w.cell? ⟨q,2,none⟩=some (af .empty)/\w.cell? ⟨q,3,none⟩=some (ae none 0 0))/\∀j,w.frozen? ⟨q,j,none⟩=false:=by
 unfold qS at a;refine⟨⟨?_,?_,?_,?_⟩,λj=>?_⟩
 all_goals simp[World.cell?,World.frozen?,a]
theorem La{p:List (Tm n)}(f:w0.ownsRow (w.heap.size+1) 31 4 (.slice (some ⟨(w.alloc (.cells #[ab 0,ab 0,af .empty,ae none 0 0] 31)).heap.size,0,none⟩) len len) len (madeCells (Value.agg #[ab 0,ab 0,af .empty,ae none 0 0]).cells (len*4)).toList)(a:(w.alloc (.cells #[ab 0,ab 0,af .empty,ae none 0 0] 31)).grownBy w0 none):ak w w0/\ur n p len (w.heap.size+1) 0 [] w0/\qS w.heap.size w0:=by
 have c:(w.alloc (.cells #[ab 0,ab 0,af .empty,ae none 0 0] 31)).heap.size=w.heap.size+1:=by simp
 have g:ak w (w.alloc (.cells #[ab 0,ab 0,af .empty,ae none 0 0] 31)):=(aq _ _).alloc (ao _) _;have d:Below (w.heap.size+1) (w.alloc (.cells #[ab 0,ab 0,af .empty,ae none 0 0] 31)) w0:=⟨a.os,a.tape,a.output,a.size,λb h=>a.block b (by omega) (by simp)⟩;have e:=rq (w:=w.alloc (.cells #[ab 0,ab 0,af .empty,ae none 0 0] 31)) n p len (by rw[c]at f ⊢;exact f);rw[c]at e;exact⟨g.trans (d.mono (by omega)),e,(d.block _ (by omega)).trans (aF w _)⟩
theorem ur.end{p:List (Tm n)}{l:List (Tm n)}(r:ur n p len g len l wr)(A:p.length=len)(z:g=w.heap.size+1)(c:ak w wr)(t:len<=maxLen):∀v0 v1 v2 v3,gQ n p w (di wr w.heap.size 0 v0 v1 v2 v3) (some ⟨g,0,none⟩) len l:=by
 intro v0 v1 v2 v3;obtain⟨y,e,i,j⟩:=r;rw[bF (by omega)]at j;rw[hU,nb,eK]at e;refine⟨⟨c.os,c.tape,c.output,aD c.size (dF (bA _ _ _ _).symm),λh f=>(bj (by omega) _ _ _ _).trans (c.block h f)⟩,by omega,by omega,t,j,aj ⟨g,0,rfl,⟨by omega,rfl,λv=>?_,λa d=>(i a d).2.mono λh f=>by omega⟩,by rw[bA];exact e.lt.2,λu a d=>?_⟩⟩
 ·have k:=e.free v;unfold World.frozen? at k ⊢;rw[bj (w:=wr) (g:=w.heap.size) (b:=g) (o:=0) (by omega) v0 v1 v2 v3];exact k
 have s:=e.cells u ⟨n,a⟩ (by simp[d]);have m:=(i a (aN d)).1;have q:=(i a (aN d)).2;refine⟨?_,?_,q.mono λh f=>by omega⟩
 ·cases n with
  | zero=>exact m.elim
  | succ n=>
   rw[de];exact dH.block (bj (by omega) _ _ _ _) (n:=n+1) (x:=a) s
 ·rw[bA];exact In.off (λh f=>bj (by omega) _ _ _ _) q m
theorem Ah(n:Nat)(ih:PH n)(base:Nat)(q:cG)(room:Int)(ws:List Wd)(nm:List ap)(M:aR)(a:aw)(len pc:Nat)(p:List (Tm n))(vs:List Wd)(Y:Hid (p.length=len))(aF:Hid (vs.length=len))(w:ag)(Q:Hid (dM base q room ws nm M w))(a0:len<=8)(al:Hid (ws.length<=100000))(W:Hid (nm.length<=100000))(U:Hid (eW w vs a))(aa:Hid (∀(i:Nat)(y:Tm n)(v:Wd),p[i]?=some y->vs[i]?=some v->dN ws nm n y v))(Z:Hid (∀y∈p,aI ⟨n,y⟩)):am 177 #[.pointer (some ⟨q.b,q.o,none⟩),ae a len pc] w λe w'=>∃N O l,e=.returned (.agg #[ab 4,ab 0,af .empty,ae N len O])/\Hid (gQ n p w w' N O l):=by
 obtain⟨aG,V,ad,ah,ai⟩:=bW gw;go_enter func177,ntmps177;go_wp2_with (at_make;refine kY _ rfl _ _ 29 rfl (w.heap.size+1) 31 aG _ 4 underlying29 V ad ah _ _ _ _ len rfl rfl rfl rfl (by rw[ai];omega) (by unfold maxLen;omega) (by simp) ?_;intro F X T;have A:=au (La (p:=p) X T);clear X T);clear V ad ah ai;obtain⟨d,S⟩:∃d,w.heap.size+1=d:=⟨_,rfl⟩;rw[S]at A ⊢;obtain⟨ar,J,L⟩:Hid (ak w F)/\Hid (ur n p len d 0 [] F)/\Hid (qS w.heap.size F):=A.out;clear A;go_loopw [13] (λi wr=>∃k:Nat,k<=len/\i=ab k/\Hid (ak w wr/\qS w.heap.size wr/\∃l,ur n p len d k l wr)) (λi _=>len-(intOf i).toNat)
 case atStart=>exact⟨0,by omega,rfl,ar,L,[],J⟩
 case round=>
  clear J L;obtain⟨k,aX,rfl,K⟩:=hrel;obtain⟨g,t,l,h⟩:Hid (ak w wr)/\Hid (qS w.heap.size wr)/\∃l,Hid (ur n p len d k l wr):=K.out;clear K;by_cases B:k<len
  ·obtain⟨f,u⟩:∃f,p[k]?=some f:=⟨p[k]'(by rw[Y.out];exact B),aM _⟩;obtain⟨v,s⟩:∃v,vs[k]?=some v:=⟨vs[k]'(by rw[aF.out];exact B),aM _⟩;obtain⟨b,o,rfl,R,aj⟩:∃b o,a=some ⟨b,o,none⟩/\b<w.heap.size/\∀(i:Nat)(v:Wd),vs[i]?=some v->w.cell? ⟨b,o+i*2,none⟩=some (ab v.1)/\w.cell? ⟨b,o+i*2+1,none⟩=some (ab v.2):=by
    rcases U.out with e|e
    ·rw[e]at s;simp at s
    ·exact e
   obtain⟨D,E⟩:=aj k v s;replace D:=(ax g b (o+k*2) R).trans D;replace E:=(ax g b (o+k*2+1) R).trans E;have aE:=au u;have aW:d<wr.heap.size:=h.2.1.lt.2
   have H:Hid (∀(c:ag),ak wr c->am 140 #[.pointer (some ⟨q.b,q.o,none⟩),.agg #[ab v.1,ab v.2]] c λe w'=>∃y:Tm n,e=.returned (dw n y)/\Hid (ak c w'/\In w'.heap.size w' n y/\cr (λx=>c.heap.size<=x) n y/\aB n y n f=true)):=
    λc j=>ih f v base q room ws nm _ c (Q.later (g.trans (j.mono g.size))) al W (aa k f v u s) (Z f (aN u))
   clear ih u s aj U aa Z Q al W;have aY:(0:Int)<=(k:Int):=by omega
   have aZ:(k:Int)<(len:Int):=by omega
   have a1:b<wr.heap.size:=by omega
   go_wp2_with fail;refine(H _ ((aq _ _).alloc (ao _) _)).mono ?_;rintro e c ⟨y,rfl,m⟩;have r:Hid (ak wr c):=((aq _ _).alloc (ao _) _).trans (m.1.mono (by simp));have aC:=au (h.step B f aE r y m.2.1 (m.2.2.1.mono λx C=>by simp at C;omega) m.2.2.2);have z:=au (h.2.1.below r);have I:=m.2.1;cases n with
   | zero=>exact I.elim
   | succ n=>
   clear I;have av:Hid (ak w (jD c d (k*4) (gu (n+1) y))):=by
    have j:=g.trans (r.mono g.size);exact⟨j.os,j.tape,j.output,aD j.size (dF (bA _ _ _ _).symm),λx C=>(bj (by omega) _ _ _ _).trans (j.block x C)⟩
   have ay:Hid (qS w.heap.size (jD c d (k*4) (gu (n+1) y))):=t.kept ((bj (by omega) _ _ _ _).trans (r.block _ (by omega)));obtain⟨G,an⟩:∃G,(l.map (λf=>(⟨n+1,f⟩:An))++List.replicate (len-k) zA)[k]?=some G:=⟨_,aM (by simp[h.out.1];omega)⟩;obtain⟨aP,aQ,aS,aT⟩:=z.out.cells k G an;have aV:=λaH=>z.free aH;have P:dw (n+1) y=.agg #[ab y.1.1,ab y.1.2.1,af y.1.2.2,ae y.2.1.1 y.2.2.length y.2.1.2]:=rfl;rw[P];clear H h g m r z t D E an P;go_wp2_with fail;go_roundw
   case rel=>exact⟨k+1,by omega,by go_num,av,ay,l++ [y],aC⟩
   case measure=>simp[intOf];omega
  ·obtain rfl:k=len:=by omega
   have aA:=au (h.end Y S.symm g (by unfold maxLen;omega));obtain⟨⟨aJ,aK,aL,aO⟩,aU⟩:=t.out.cells;clear h ih t;go_wp2_with fail;exact az (v:=.agg #[ab 4,ab 0,af .empty,ae (some ⟨d,0,none⟩) k k]) (by simp[results,results177,go_sem,aJ,aK,aL,aO];rfl) rfl ⟨_,_,l,rfl,aA _ _ _ _⟩
theorem yP(b:ak w wA)(c:ak wA w2)(v0 v1 v2 v3:av):ak w (di w2 (w.heap.size+1) 0 v0 v1 v2 v3):=by
 have a:=b.trans (c.mono b.size);exact⟨a.os,a.tape,a.output,aD a.size (dF (bA _ _ _ _).symm),λe d=>(bj (by omega) _ _ _ _).trans (a.block e d)⟩
theorem Ii(a:cG)(k u:Int)(w:ag)(c:¬k=2)(d:¬k=4):am 140 #[.pointer (some ⟨a.b,a.o,none⟩),.agg #[ab k,ab u]] w λe w'=>e=.returned (.agg #[ab k,ab u,af .empty,ae none 0 0])/\ak w w':=by
 have f:(k==2)=false:=by simpa using c
 have g:(k==4)=false:=by simpa using d
 go_enter func140,ntmps140;go_wp2_with fail;exact az (v:=.agg #[ab k,ab u,af .empty,ae none 0 0]) (by simp[results,results140,go_sem];rfl) rfl ⟨rfl,by go_grown⟩
theorem Ih(base:Nat)(a:cG)(room:Int)(ws:List Wd)(nm:List ap)(M:aR)(i:Nat)(s:ap)(w:ag)(m:Hid (dM base a room ws nm M w))(q:nm.length<=100000)(r:Hid (nm[i]?=some s))(t:s.size<=2048):am 140 #[.pointer (some ⟨a.b,a.o,none⟩),.agg #[ab 2,ab i]] w λe w'=>e=.returned (.agg #[ab 2,ab 0,af s,ae none 0 0])/\ak w w':=by
 go_enter func140,ntmps140;go_wp2_with fail;generalize f:(w.alloc (Obj.cells #[Value.int IntKind.i64 2,Value.int IntKind.i64 i] 109)).alloc (Obj.cells #[ab 0,ab 0,af ⟨#[]⟩,ae none 0 0] 31)=wA;have c:Hid (ak w wA.drew/\wA.drew.heap.size=w.heap.size+2):=by
  subst f;exact⟨(((aq _ _).alloc (ao _) _).alloc (by simp) _).drew,by simp[World.drew]⟩
 have D:wA.cell? ⟨w.heap.size,1,none⟩=some (ab i):=by subst f;simp[go_sem]
 have l:Hid (qS (w.heap.size+1) wA.drew):=by
  subst f;have:=aF (w.alloc (Obj.cells #[Value.int IntKind.i64 2,Value.int IntKind.i64 i] 109)) (Obj.cells #[ab 0,ab 0,af ⟨#[]⟩,ae none 0 0] 31);have es:∀o,(w.alloc o).heap.size=w.heap.size+1:=λo=>by simp
  rw[es]at this;exact this
 have j:Hid (am 176 #[.pointer (some ⟨a.b,a.o+2,none⟩),ab i] wA.drew λe w'=>e=.returned (af s)/\Below wA.drew.heap.size wA.drew w'):=by
  obtain⟨C,u,x,n,F,p,_⟩:=m.later c.1;exact DI base a room C u x nm i s wA.drew n p.1 r q t
 clear f;go_region_held3 (λw'=>w'.cell? ⟨w.heap.size,1,none⟩=some (ab i)) (go_keep) ((go_at_call 176;refine j.mono ?_;rintro e H ⟨rfl,d⟩;have g:=au d;have G:=λo=>ax d w.heap.size o (by have:=c.2;omega);have h:=au (l.kept (d.block _ (by have:=c.2;omega)));obtain⟨⟨y,z,A,B⟩,E⟩:=h.cells;clear d));have k:=au (yP c.1 g (ab 2) (ab 0) (af s) (ae none 0 0));go_wp2_with fail;exact az (v:=.agg #[ab 2,ab 0,af s,ae none 0 0]) (by simp[results,results140,go_sem,y,z,A,B]) rfl ⟨rfl,k⟩
theorem EQ(g o j:Nat):(⟨g,o,none⟩:Addr).add j=⟨g,o+j,none⟩:=by
 unfold Addr.add;by_cases a:j=0<;>simp[a]
theorem CK{vs:List Wd}(d:fm w vs (some ⟨g,o,none⟩))(h:g<w.heap.size):eW w vs (some ⟨g,o,none⟩):=by
 rcases d with d|⟨ad,c,e⟩
 ·exact ai d
 ·injection c with c;subst c;refine aj ⟨g,o,rfl,h,λa b f=>⟨?_,?_⟩⟩
  ·have:=e (a*2+0) (ab b.1) (by rw[ji vs a b f 0 (by omega)];rfl);rw[EQ]at this;exact this
  ·have:=e (a*2+1) (ab b.2) (by rw[ji vs a b f 1 (by omega)];rfl);rw[EQ]at this;exact this
theorem K5(n:Nat)(ih:PH n)(base:Nat)(a:cG)(room:Int)(ws:List Wd)(nm:List ap)(M:aR)(k len:Nat)(p:List (Tm n))(L:Hid (p.length=len))(w:ag)(G:Hid (dM base a room ws nm M w))(aj:len<=8)(E:Hid (ws.length<=100000))(K:Hid (nm.length<=100000))(J:Hid (ws[k]?=some (0,(len:Int))))(D:Hid (k+1+len<=ws.length))(O:Hid (∀(i:Nat)(y:Tm n),p[i]?=some y->∃u,ws[k+1+i]?=some u/\dN ws nm n y u))(N:Hid (∀y∈p,aI ⟨n,y⟩)):am 140 #[.pointer (some ⟨a.b,a.o,none⟩),.agg #[ab 4,ab k]] w λe w'=>∃g h l,e=.returned (.agg #[ab 4,ab 0,af .empty,ae g len h])/\Hid (gQ n p w w' g h l):=by
 go_enter func140,ntmps140;go_wp2_with fail;generalize x:(w.alloc (Obj.cells #[Value.int IntKind.i64 4,Value.int IntKind.i64 k] 109)).alloc (Obj.cells #[ab 0,ab 0,af ⟨#[]⟩,ae none 0 0] 31)=wA;have m:Hid (ak w wA.drew/\wA.drew.heap.size=w.heap.size+2):=by
  subst x;exact⟨(((aq _ _).alloc (ao _) _).alloc (by simp) _).drew,by simp[World.drew]⟩
 have X:wA.cell? ⟨w.heap.size,1,none⟩=some (ab k):=by subst x;simp[go_sem]
 have V:Hid (qS (w.heap.size+1) wA.drew):=by
  subst x;have:=aF (w.alloc (Obj.cells #[Value.int IntKind.i64 4,Value.int IntKind.i64 k] 109)) (Obj.cells #[ab 0,ab 0,af ⟨#[]⟩,ae none 0 0] 31);have es:∀o,(w.alloc o).heap.size=w.heap.size+1:=λo=>by simp
  rw[es]at this;exact this
 have A:=au (G.later m.1);obtain⟨c,j,f,B,F⟩:∃c j f,wA.cell? ⟨a.b,a.o+1,none⟩=some (ae (some ⟨c,0,none⟩) j f)/\Hid (a.b<w.heap.size/\am 178 #[ae (some ⟨c,0,none⟩) j f,ab k] wA.drew λe w'=>∃o pc,e=.returned (ae (some ⟨c,o,none⟩) len pc)/\w'=wA.drew/\Hid (eW wA.drew ((ws.drop (k+1)).take len) (some ⟨c,o,none⟩))):=by
  obtain⟨aQ,aO,aP,Y,C,aJ,Z,_⟩:=A.out;obtain⟨⟨aD,B,aE,aG⟩,aL⟩:=Y.cells;have ai:=D.out;obtain⟨c,f,rfl,_,_⟩:=C.form (by omega);refine⟨c,_,f,B,Z.2,?_⟩;refine(xN base c ws.length f k len ws wA.drew E C J ai).mono ?_;rintro e w' ⟨rfl,pa,pc,rfl,_,ar,o,rfl⟩;exact⟨o,pc,rfl,rfl,CK ar (C.lt c rfl).2⟩
 have S:Hid (∀o pc,eW wA.drew ((ws.drop (k+1)).take len) (some ⟨c,o,none⟩)->am 177 #[.pointer (some ⟨a.b,a.o,none⟩),ae (some ⟨c,o,none⟩) len pc] wA.drew λe w'=>∃g h l,e=.returned (.agg #[ab 4,ab 0,af .empty,ae g len h])/\Hid (gQ n p wA.drew w' g h l)):=by
  intro o pc ah;refine Ah n ih base a room ws nm _ (some ⟨c,o,none⟩) len pc p ((ws.drop (k+1)).take len) L ?_ wA.drew A aj E K ah ?_ N
  ·have:=D.out;unfold Hid;rw[dL,fj];omega
  ·intro i y v Q P;obtain⟨u,an,al⟩:=O.out i y Q;have ad:i<len:=by have:=(aX.1 Q).1;have:=L.out;omega
   rw[sX ad,kP,an]at P;obtain rfl:=aA P;exact al
 clear x ih O N G A J D E K;have aM:a.b<w.heap.size:=F.1;have aN:w.heap.size+1≠a.b:=by omega
 have U:Hid (∀(d:ag)(q r s t:av),(d.cell? ⟨w.heap.size,1,none⟩=some (ab k)/\d.cell? ⟨a.b,a.o+1,none⟩=some (ae (some ⟨c,0,none⟩) j f))->((((d.setCell ⟨w.heap.size+1,0,none⟩ q).setCell ⟨w.heap.size+1,1,none⟩ r).setCell ⟨w.heap.size+1,2,none⟩ s).setCell ⟨w.heap.size+1,3,none⟩ t).cell? ⟨w.heap.size,1,none⟩=some (ab k)/\((((d.setCell ⟨w.heap.size+1,0,none⟩ q).setCell ⟨w.heap.size+1,1,none⟩ r).setCell ⟨w.heap.size+1,2,none⟩ s).setCell ⟨w.heap.size+1,3,none⟩ t).cell? ⟨a.b,a.o+1,none⟩=some (ae (some ⟨c,0,none⟩) j f)):=by
  intro d q r s t I;exact⟨(bD (bj (o:=0) (w:=d) (show w.heap.size≠w.heap.size+1 by omega) q r s t) 1).trans I.1,(bD (bj (o:=0) (w:=d) (show a.b≠w.heap.size+1 by omega) q r s t) (a.o+1)).trans I.2⟩
 go_region_held3 (λw'=>w'.cell? ⟨w.heap.size,1,none⟩=some (ab k)/\w'.cell? ⟨a.b,a.o+1,none⟩=some (ae (some ⟨c,0,none⟩) j f)) (first|(go_keep;done)|exact U _ _ _ _ _ aa) ((first
  | (go_at_call 178;refine F.2.mono ?_;rintro e d ⟨o,pc,rfl,rfl,W⟩)
  | (go_at_call 177;refine(S _ _ W).mono ?_;rintro e d ⟨g,h,l,rfl,z⟩;have H:=λb o (aK:b<w.heap.size+1)=>ax z.1 b o (by have:=m.2;omega);have aa:d.cell? ⟨w.heap.size,1,none⟩=some (ab k)/\d.cell? ⟨a.b,a.o+1,none⟩=some (ae (some ⟨c,0,none⟩) j f):=⟨(H w.heap.size 1 (by omega)).trans X,(H a.b (a.o+1) (by omega)).trans B⟩;have R:=au (V.kept (z.1.block _ (by have:=m.2;omega)));obtain⟨⟨aw,ay,aB,aC⟩,aH⟩:=R.cells)))
 have T:=au (z.box m.1 (by have:=m.2;omega) (ab 4) (ab 0) (af .empty) (ae g len h));go_wp2_with fail;exact az (v:=.agg #[ab 4,ab 0,af .empty,ae g len h]) (by simp[results,results140,go_sem,aw,ay,aB,aC]) rfl ⟨g,h,l,rfl,T⟩
theorem uV(x:Nd)(b:cJ x=true):dC x.1.1/\dC x.1.2.1:=by
 have c:=kC x b;unfold cJ qP at b;unfold dC;rcases c with a|a|a|a|a|⟨a,d⟩
 all_goals (rw[a]at b ⊢;simp at b;refine⟨by omega,by omega⟩)
theorem K4(n:Nat):PH n:=by
 induction n with
 | zero=>intro a af u q room B z t s _ _ _ x;exact x.elim
 | succ n ih=>
  intro a af u q room B z t s C V F x H;have p:=H (bI n a) (by simp[aC,bI]);have S:a.2.2.length<=8:=mB (bI n a) p;have G:a.1.2.2.size<=2048:=by have:=sD (bI n a) p;simp only[bI]at this;omega
  obtain⟨ad,ae,ab⟩:=x;have g:=eR (bI n a) p;have I:∀(e:ag)(k A:Int)(r:ap),dC k->dC A->r.size<=2048->In e.heap.size e (n+1) ((k,A,r),(none,0),[]):=λe k A r M d ah=>⟨⟨M,d,by unfold maxLen;show r.size<=_;omega,ao _,aL _⟩,ai rfl⟩;by_cases d:a.1.1=2
  ·obtain⟨j,rfl,P⟩:=ad d;have y:a.2.2=[]:=bJ (g.2.2.2.2 (by show a.1.1≠4;omega));refine(Ih u q room B z t j a.1.2.2 s C F P G).mono ?_;rintro f e ⟨rfl,v⟩;refine⟨((2,0,a.1.2.2),(none,0),[]),rfl,v,I e 2 0 _ (by unfold dC;omega) (by unfold dC;omega) G,ai rfl,?_⟩;have N:a.1.2.1=0:=g.2.1 d;simp[aB,d,N,y,aG]
  ·by_cases h:a.1.1=4
   ·obtain⟨k,rfl,Q,R,T⟩:=ae h;refine(K5 n ih u q room B z t k a.2.2.length a.2.2 rfl s C S V F Q R T (λm i=>bf n a m H i)).mono ?_;rintro f e ⟨K,L,l,rfl,J⟩;obtain⟨W,X,Y,Z,aa,c⟩:=J;have O:a.1.2.1=0:=g.2.2.1 h;have w:a.1.2.2.toList=[]:=g.1 d;refine⟨((4,0,.empty),(K,L),l),by rw[<-X];rfl,W,⟨⟨by unfold dC;show (-9223372036854775808:Int)<=4/\(4:Int)<=9223372036854775807;omega,by unfold dC;show (-9223372036854775808:Int)<=0/\(0:Int)<=9223372036854775807;omega,by unfold maxLen;show (0:Nat)<=_;omega,Y,Z⟩,?_⟩,?_,?_⟩
    ·rcases c with c|⟨b,o,f,D,E,c⟩
     ·exact ai c
     ·exact aj ⟨b,o,f,E,λj m i=>⟨(c j m i).1,(c j m i).2.1⟩⟩
    ·rcases c with c|⟨b,o,f,D,E,c⟩
     ·exact ai c
     ·exact aj ⟨b,o,f,D.1,λj m i=>(c j m i).2.2⟩
    ·simp only[aB];rw[h,O,w,aa];simp
   ·have U:=ab d h;subst U;have y:a.2.2=[]:=bJ (g.2.2.2.2 h);have w:a.1.2.2.toList=[]:=g.1 d;refine(Ii q a.1.1 a.1.2.1 s d h).mono ?_;rintro f e ⟨rfl,v⟩;refine⟨((a.1.1,a.1.2.1,.empty),(none,0),[]),rfl,v,I e _ _ _ ?_ ?_ (by show (0:Nat)<=_;omega),ai rfl,?_⟩
    ·exact(uV _ p).1
    ·exact(uV _ p).2
    ·simp only[aB];rw[w,y];simp[aG]
def cT(ws:List Wd)(nm:List ap)(v:Wd):Bool:=
 if v.1=1 then qP v.2 (-1099511627776) 1099511627776 else if v.1=3 then qP v.2 1 99 else if v.1=2 then uX nm.length v.2 else if v.1=4 then f9 ws v.2 else false
def zr(k u:Int):Tm 1:=((k,u,.empty),(none,0),[])
theorem J4(k u:Int)(a:k=1\/k=3):bE 1 (zr k u)=if cJ (bI 0 (zr k u))then 0 else 5:=by
 rcases a with rfl|rfl<;>simp[bE,zr,aC,pU,C7,sz,ny,bI]<;>rfl
theorem GN(ws:List Wd)(nm:List ap)(k u:Int)(a:k=1\/k=3):cJ (bI 0 (zr k u))=cT ws nm (k,u):=by
 rcases a with rfl|rfl<;>simp[cJ,zr,bI,cT]
theorem vX(h:cG)(ws:List Wd)(nm:List ap)(k u:Int)(w:ag)(c:k=1\/k=3)(i:dC u):am 113 #[.pointer (some ⟨h.b,h.o,none⟩),.agg #[ab k,ab u]] w λe w'=>e=.returned (.bool (cT ws nm (k,u)))/\ak w w':=by
 have d:Hid (∀a,am 53 #[.agg #[ab k,ab u,af .empty,ae none 0 0]] a λe w'=>e=.returned (ab (if cT ws nm (k,u)then 0 else 5))/\ak a w'):=by
  intro a;have f:=dQ 1 (zr k u) a.heap.size a ⟨⟨by rcases c with rfl|rfl<;>simp[zr,dC],i,by simp[zr,maxLen],ao _,aL _⟩,ai rfl⟩ (ao _) (by simp[aC,zr]);rw[J4 k u c,GN ws nm k u c]at f;exact f
 generalize cT ws nm (k,u)=j at*;cases j
 all_goals
  simp only[cY,pr,if_false]at d;rcases c with rfl|rfl
  all_goals
   go_enter func113,ntmps113;go_wp2_with fail;refine(d _).mono ?_;rintro e l ⟨rfl,g⟩;have HB:=au g;clear g;go_wp2_with fail
   go_ret
   exact⟨rfl,((aq _ _).alloc (ao _) _).trans (HB.mono (by simp))⟩
theorem Cq(base:Nat)(a:cG)(room:Int)(ws:List Wd)(nm:List ap)(M:aR)(u:Int)(w:ag)(i:Hid (dM base a room ws nm M w)):am 113 #[.pointer (some ⟨a.b,a.o,none⟩),.agg #[ab 2,ab u]] w λe w'=>e=.returned (.bool (uX nm.length u))/\ak w w':=by
 have j:Hid (∀wA,ak w wA->am 149 #[.pointer (some ⟨a.b,a.o+2,none⟩),ab u] wA λe w'=>e=.returned (.bool (uX nm.length u))/\w'=wA):=by
  intro wA n;obtain⟨r,p,q,l,y,m,_⟩:=i.out.later n;obtain⟨f,g,rfl⟩:∃f g,p=ae f nm.length g:=by
   rcases m.1.2 with⟨e,k⟩|⟨x,c,t,e,_⟩
   ·exact⟨none,0,by rw[e,k]⟩
   ·exact⟨_,c,e⟩
  exact Mo a room r f nm.length g q u wA l
 clear i;generalize uX nm.length u=s at*;go_enter func113,ntmps113;go_wp2_with fail;generalize d:w.alloc (Obj.cells #[Value.int IntKind.i64 2,Value.int IntKind.i64 u] 109)=wA;have h:Hid (ak w wA.drew):=by subst d;exact((aq _ _).alloc (ao _) _).drew
 have v:wA.cell? ⟨w.heap.size,1,none⟩=some (ab u):=by subst d;simp[go_sem]
 clear d;go_region_held3 (λw'=>w'.cell? ⟨w.heap.size,1,none⟩=some (ab u)) (go_keep) ((go_at_call 149;refine(j _ h).mono ?_;rintro e z ⟨rfl,rfl⟩));go_wp2_with fail
 go_ret
 exact⟨rfl,h⟩
theorem Eo(base:Nat)(a:cG)(room:Int)(ws:List Wd)(nm:List ap)(M:aR)(u:Int)(w:ag)(k:Hid (dM base a room ws nm M w))(s:ws.length<=100000):am 113 #[.pointer (some ⟨a.b,a.o,none⟩),.agg #[ab 4,ab u]] w λe w'=>e=.returned (.bool (f9 ws u))/\ak w w':=by
 obtain⟨d,f,r,j,n⟩:∃d f,a.b<w.heap.size/\w.cell? ⟨a.b,a.o+1,none⟩=some (ae d ws.length f)/\Hid (∀wA,ak w wA->am 150 #[ae d ws.length f,ab u] wA λe w'=>e=.returned (.bool (f9 ws u))/\w'=wA):=by
  obtain⟨t,B,C,l,m,A,_⟩:=k.out;obtain⟨d,f,rfl⟩:∃d f,t=ae d ws.length f:=by
   rcases m.2 with⟨e,p⟩|⟨z,c,x,e,_⟩
   ·exact⟨none,0,by rw[e,p]⟩
   ·exact⟨_,c,e⟩
  exact⟨d,f,l.lt,l.cells.1.2.1,λwA q=>CZ base d ws.length f ws u wA rfl s (dY m q)⟩
 clear k;generalize f9 ws u=v at*;generalize ws.length=i at*;go_enter func113,ntmps113;go_wp2_with fail;generalize h:w.alloc (Obj.cells #[Value.int IntKind.i64 4,Value.int IntKind.i64 u] 109)=wA;have g:Hid (ak w wA.drew):=by subst h;exact((aq _ _).alloc (ao _) _).drew
 have y:wA.cell? ⟨w.heap.size,1,none⟩=some (ab u):=by subst h;simp[go_sem]
 replace j:wA.cell? ⟨a.b,a.o+1,none⟩=some (ae d i f):=(ax g a.b (a.o+1) r).trans j;clear h;go_region_held3 (λw'=>w'.cell? ⟨w.heap.size,1,none⟩=some (ab u)/\w'.cell? ⟨a.b,a.o+1,none⟩=some (ae d i f)) (go_keep) ((go_at_call 150;refine(n _ g).mono ?_;rintro e D ⟨rfl,rfl⟩));go_wp2_with fail
 go_ret
 exact⟨rfl,g⟩
theorem Cr(a:cG)(k u:Int)(w:ag)(c:¬k=1)(d:¬k=2)(f:¬k=3)(g:¬k=4):am 113 #[.pointer (some ⟨a.b,a.o,none⟩),.agg #[ab k,ab u]] w λe w'=>e=.returned (.bool false)/\ak w w':=by
 have h:(k==1)=false:=by simpa using c
 have i:(k==2)=false:=by simpa using d
 have j:(k==3)=false:=by simpa using f
 have l:(k==4)=false:=by simpa using g
 go_enter func113,ntmps113;go_wp2_with fail
 go_ret
 exact⟨rfl,by go_grown⟩
theorem vW(base:Nat)(c:cG)(room:Int)(ws:List Wd)(nm:List ap)(M:aR)(v:Wd)(w:ag)(i:dM base c room ws nm M w)(l:ws.length<=100000)(j:dC v.2):am 113 #[.pointer (some ⟨c.b,c.o,none⟩),IS v] w λe w'=>e=.returned (.bool (cT ws nm v))/\ak w w':=by
 obtain⟨k,a⟩:=v;by_cases d:k=1
 ·exact vX c ws nm k a w (ai d) j
 ·by_cases g:k=3
  ·exact vX c ws nm k a w (aj g) j
  ·by_cases f:k=2
   ·subst f;have e:cT ws nm (2,a)=uX nm.length a:=by simp[cT]
    rw[e];exact Cq base c room ws nm M a w i
   ·by_cases h:k=4
    ·subst h;have e:cT ws nm (4,a)=f9 ws a:=by simp[cT]
     rw[e];exact Eo base c room ws nm M a w i l
    ·have e:cT ws nm (k,a)=false:=by simp[cT,d,f,g,h]
     rw[e];exact Cr c k a w d f g h
theorem yK(base:Nat)(j:cG)(room:Int)(ws:List Wd)(nm:List ap)(M:aR)(vs:List Wd)(a:aw)(len pc:Nat)(w:ag)(r:Hid (dM base j room ws nm M w))(D:ws.length<=100000)(y:Hid (vs.length=len))(I:len<=100000)(x:Hid (eW w vs a))(u:Hid (∀v∈vs,dC v.2)):am 74 #[.pointer (some ⟨j.b,j.o,none⟩),ae a len pc] w λe w'=>e=.returned (.bool (vs.all (cT ws nm)))/\ak w w':=by
 go_enter func74,ntmps74;go_wp2_with fail;go_loopw [9] (λg wr=>∃k:Nat,k<=len/\g=ab k/\Hid (ak w wr/\(vs.take k).all (cT ws nm)=true)) (λg _=>len-(intOf g).toNat)
 case atStart=>exact⟨0,by omega,rfl,aq _ _,by simp⟩
 case round=>
  obtain⟨k,F,rfl,c⟩:=hrel;by_cases C:k<len
  ·obtain⟨v,f⟩:∃v,vs[k]?=some v:=⟨vs[k]'(by rw[y.out];exact C),aM _⟩;obtain⟨b,o,rfl,t,z⟩:∃b o,a=some ⟨b,o,none⟩/\b<w.heap.size/\∀(g:Nat)(v:Wd),vs[g]?=some v->w.cell? ⟨b,o+g*2,none⟩=some (ab v.1)/\w.cell? ⟨b,o+g*2+1,none⟩=some (ab v.2):=by
    rcases x.out with e|e
    ·rw[e]at f;simp at f
    ·exact e
   obtain⟨p,q⟩:=z k v f;replace p:=(ax c.1 b (o+k*2) t).trans p;replace q:=(ax c.1 b (o+k*2+1) t).trans q
   have h:Hid (∀(d:ag),ak wr d->am 113 #[.pointer (some ⟨j.b,j.o,none⟩),.agg #[ab v.1,ab v.2]] d λe w'=>e=.returned (.bool (cT ws nm v))/\ak d w'):=
    λd B=>vW base j room ws nm _ v d (r.later (c.1.trans (B.mono c.1.size))) D (u v (aN f))
   have i:Hid ((cT ws nm v=true->(vs.take (k+1)).all (cT ws nm)=true)/\(cT ws nm v=false->vs.all (cT ws nm)=false)):=by
    refine⟨λe=>?_,λe=>?_⟩
    ·rw[dz,f,kM,c.out.2];simp[e]
    ·cases ha:vs.all (cT ws nm)
     ·rfl
     ·rw[cu]at ha;rw[ha v (aN f)]at e;exact e
   have m:Hid (ak w wr):=c.1;clear f z x r u c;have G:(0:Int)<=(k:Int):=by omega
   have H:(k:Int)<(len:Int):=by omega
   have E:=m.size;have J:b<wr.heap.size:=by omega
   clear E;cases hsb:cT ws nm v
   ·rw[hsb]at h;replace i:=au (i.2 hsb);clear hsb;go_wp2_with fail;refine(h _ ((aq _ _).alloc (ao _) _)).mono ?_;rintro e d ⟨rfl,n⟩;have l:Hid (ak w d):=m.trans ((((aq _ _).alloc (ao _) _).trans (n.mono (by simp))).mono m.size);clear n p q h;go_wp2_with fail
    go_ret
    exact⟨fe i.symm,l⟩
   ·rw[hsb]at h;replace i:=au (i.1 hsb);clear hsb;go_wp2_with fail;refine(h _ ((aq _ _).alloc (ao _) _)).mono ?_;rintro e d ⟨rfl,n⟩;have l:Hid (ak w d):=m.trans ((((aq _ _).alloc (ao _) _).trans (n.mono (by simp))).mono m.size);clear n p q h;go_wp2_with fail;go_roundw
    case rel=>exact⟨k+1,by omega,by go_num,l,i⟩
    case measure=>simp[intOf];omega
  ·have A:Hid (vs.all (cT ws nm)=true):=by
     have s:=c.2;rw[bF (by have:=y.out;omega)]at s;exact s
   have l:Hid (ak w wr):=c.1;clear c;go_wp2_with fail
   go_ret
   exact⟨fe A.symm,l⟩
def lX(q:Nat)(k u:Int)(s:ap)(a:aw)(l c:Nat)(w:ag):Prop:=
 w.heap[q]?=some (.cells #[ab k,ab u,af s,ae a l c] 31)/\w.heap[q+1]?=some (.cells #[ab 0,ab 0] 109)
theorem uk(w:ag)(k u:Int)(s:ap)(a:aw)(l c:Nat):lX w.heap.size k u s a l c ((w.alloc (Obj.cells #[ab k,ab u,af s,ae a l c] 31)).alloc (Obj.cells #[ab 0,ab 0] 109)):=by
 refine⟨((cX (w.alloc (Obj.cells #[ab k,ab u,af s,ae a l c] 31)) (Obj.cells #[ab 0,ab 0] 109) none).block _ (by simp) (by simp)).trans (aF w _),?_⟩;have:=aF (w.alloc (Obj.cells #[ab k,ab u,af s,ae a l c] 31)) (Obj.cells #[ab 0,ab 0] 109);have es:∀o,(w.alloc o).heap.size=w.heap.size+1:=λo=>by simp
 rw[es]at this;exact this
theorem lX.facts(b:lX q k u s a l c w):(w.cell? ⟨q,0,none⟩=some (ab k)/\w.cell? ⟨q,1,none⟩=some (ab u)/\w.cell? ⟨q,2,none⟩=some (af s)/\w.cell? ⟨q,3,none⟩=some (ae a l c))/\(w.cell? ⟨q+1,0,none⟩=some (ab 0)/\w.cell? ⟨q+1,1,none⟩=some (ab 0))/\w.frozen? ⟨q+1,0,none⟩=false/\w.frozen? ⟨q+1,1,none⟩=false:=by
 obtain⟨d,e⟩:=b;refine⟨⟨?_,?_,?_,?_⟩,⟨?_,?_⟩,?_,?_⟩
 all_goals simp[World.cell?,World.frozen?,d,e]
theorem fU(f:ak w w1/\w.heap.size+2<=w1.heap.size/\lX w.heap.size k u s a l c w1)(b:ak w1 w2):ak w w2/\w.heap.size+2<=w2.heap.size/\lX w.heap.size k u s a l c w2:=by
 obtain⟨d,g,e⟩:=f;have:=b.size;exact⟨d.trans (b.mono d.size),by omega,(b.block _ (by omega)).trans e.1,(b.block _ (by omega)).trans e.2⟩
theorem qt(d:ak w w1/\w.heap.size+2<=w1.heap.size/\lX w.heap.size k u s a l c w1)(v0 v1:av):ak w ((w1.setCell ⟨w.heap.size+1,0,none⟩ v0).setCell ⟨w.heap.size+1,1,none⟩ v1):=by
 obtain⟨f,j,m⟩:=d;have h:=bz w1 (w.heap.size+1) 0 v0;have i:=bz (w1.setCell ⟨w.heap.size+1,0,none⟩ v0) (w.heap.size+1) 1 v1;have e:=(bm f (λb=>b=w.heap.size+1)).trans (h.trans i (λb _ d=>d)) (λb _ d=>d);exact⟨e.os,e.tape,e.output,e.size,λb g=>e.block b g (by omega)⟩
theorem Ou(j:cG)(k u:Int)(s:ap)(a:aw)(l c:Nat)(w:ag)(d:Int)(x:(d !=0)=true)(n:Hid (∀w1,ak w w1->am 53 #[.agg #[ab k,ab u,af s,ae a l c]] w1 λe w'=>e=.returned (ab d)/\ak w1 w')):am 73 #[.pointer (some ⟨j.b,j.o,none⟩),.agg #[ab k,ab u,af s,ae a l c]] w λe w'=>e=.returned (.tuple #[.agg #[ab 0,ab 0],ab d])/\ak w w':=by
 go_enter func73,ntmps73;go_wp2_with fail;generalize m:(w.alloc (Obj.cells #[ab k,ab u,af s,ae a l c] 31)).alloc (Obj.cells #[ab 0,ab 0] 109)=g;have f:Hid (ak w g/\w.heap.size+2<=g.heap.size/\lX w.heap.size k u s a l c g):=by
  subst m;exact⟨((aq _ _).alloc (ao _) _).alloc (by simp) _,by simp,uk _ _ _ _ _ _ _⟩
 clear m;refine(n _ f.1).mono ?_;rintro e w1 ⟨rfl,i⟩;have h:=au (fU f i);obtain⟨⟨y,z,A,B⟩,⟨p,q⟩,r,t⟩:=h.out.2.2.facts;clear i f;go_wp2_with fail;exact az (v:=.tuple #[.agg #[ab 0,ab 0],ab d]) (by simp[results,results73,go_sem,p,q]) rfl ⟨rfl,qt h _ _⟩
theorem Ov(q:cG)(k u:Int)(s:ap)(a:aw)(l c:Nat)(w:ag)(A:Hid (∀w1,ak w w1->am 53 #[.agg #[ab k,ab u,af s,ae a l c]] w1 λe w'=>e=.returned (ab 0)/\ak w1 w'))(B:Hid (∀w1,ak w w1->am 54 #[.agg #[ab k,ab u,af s,ae a l c]] w1 λe w'=>e=.returned (.bool false)/\ak w1 w')):am 73 #[.pointer (some ⟨q.b,q.o,none⟩),.agg #[ab k,ab u,af s,ae a l c]] w λe w'=>e=.returned (.tuple #[.agg #[ab 0,ab 0],ab 5])/\ak w w':=by
 go_enter func73,ntmps73;go_wp2_with fail;generalize r:(w.alloc (Obj.cells #[ab k,ab u,af s,ae a l c] 31)).alloc (Obj.cells #[ab 0,ab 0] 109)=j;have g:Hid (ak w j/\w.heap.size+2<=j.heap.size/\lX w.heap.size k u s a l c j):=by
  subst r;exact⟨((aq _ _).alloc (ao _) _).alloc (by simp) _,by simp,uk _ _ _ _ _ _ _⟩
 clear r;refine(A _ g.1).mono ?_;rintro e w1 ⟨rfl,d⟩;have f:=au (fU g d);obtain⟨⟨t,x,y,z⟩,⟨h,i⟩,n,p⟩:=f.out.2.2.facts;clear d g;go_wp2_with fail;clear t x y z h i n p;refine(B _ f.1).mono ?_;rintro e C ⟨rfl,d⟩;have m:=au (fU f d);obtain⟨⟨t,x,y,z⟩,⟨h,i⟩,n,p⟩:=m.out.2.2.facts;clear d f;go_wp2_with fail;exact az (v:=.tuple #[.agg #[ab 0,ab 0],ab 5]) (by simp[results,results73,go_sem,h,i]) rfl ⟨rfl,qt m _ _⟩
theorem Ow(x:cG)(k u:Int)(s:ap)(a:aw)(l c:Nat)(w:ag)(C:Int)(D:Hid (∀w1,ak w w1->am 53 #[.agg #[ab k,ab u,af s,ae a l c]] w1 λe w'=>e=.returned (ab 0)/\ak w1 w'))(F:Hid (∀w1,ak w w1->am 54 #[.agg #[ab k,ab u,af s,ae a l c]] w1 λe w'=>e=.returned (.bool true)/\ak w1 w'))(G:Hid (∀w1,ak w w1->am 88 #[.agg #[ab k,ab u,af s,ae a l c]] w1 λe w'=>e=.returned (ab C)/\ak w1 w'))(E:Hid (∀w1,ak w w1->am 111 #[.pointer (some ⟨x.b,x.o,none⟩),ab C] w1 λe w'=>e=.returned (.bool false)/\ak w1 w')):am 73 #[.pointer (some ⟨x.b,x.o,none⟩),.agg #[ab k,ab u,af s,ae a l c]] w λe w'=>e=.returned (.tuple #[.agg #[ab 0,ab 0],ab 6])/\ak w w':=by
 go_enter func73,ntmps73;go_wp2_with fail;generalize B:(w.alloc (Obj.cells #[ab k,ab u,af s,ae a l c] 31)).alloc (Obj.cells #[ab 0,ab 0] 109)=z;have y:Hid (ak w z/\w.heap.size+2<=z.heap.size/\lX w.heap.size k u s a l c z):=by
  subst B;exact⟨((aq _ _).alloc (ao _) _).alloc (by simp) _,by simp,uk _ _ _ _ _ _ _⟩
 clear B;refine(D _ y.1).mono ?_;rintro e w1 ⟨rfl,d⟩;have q:=au (fU y d);obtain⟨⟨j,m,n,p⟩,⟨f,g⟩,h,i⟩:=q.out.2.2.facts;clear d y;go_wp2_with fail;clear j m n p f g h i;refine(F _ q.1).mono ?_;rintro e H ⟨rfl,d⟩;have r:=au (fU q d);obtain⟨⟨j,m,n,p⟩,⟨f,g⟩,h,i⟩:=r.out.2.2.facts;clear d q;go_wp2_with fail;clear j m n p f g h i;refine(G _ r.1).mono ?_;rintro e I ⟨rfl,d⟩;have t:=au (fU r d);obtain⟨⟨j,m,n,p⟩,⟨f,g⟩,h,i⟩:=t.out.2.2.facts;clear d r;go_wp2_with fail;clear j m n p f g h i;refine(E _ t.1).mono ?_;rintro e J ⟨rfl,d⟩;have A:=au (fU t d);obtain⟨⟨j,m,n,p⟩,⟨f,g⟩,h,i⟩:=A.out.2.2.facts;clear d t;go_wp2_with fail;exact az (v:=.tuple #[.agg #[ab 0,ab 0],ab 6]) (by simp[results,results73,go_sem,f,g]) rfl ⟨rfl,qt A _ _⟩
theorem Ox(i:cG)(k u:Int)(s:ap)(a:aw)(l c:Nat)(w:ag)(E:Int)(V:Wd)(base:Nat)(room:Int)(ws:List Wd)(nm:List ap)(M:aR)(F:Hid (∀w1,ak w w1->am 53 #[.agg #[ab k,ab u,af s,ae a l c]] w1 λe w'=>e=.returned (ab 0)/\ak w1 w'))(I:Hid (∀w1,ak w w1->am 54 #[.agg #[ab k,ab u,af s,ae a l c]] w1 λe w'=>e=.returned (.bool true)/\ak w1 w'))(J:Hid (∀w1,ak w w1->am 88 #[.agg #[ab k,ab u,af s,ae a l c]] w1 λe w'=>e=.returned (ab E)/\ak w1 w'))(H:Hid (∀w1,ak w w1->am 111 #[.pointer (some ⟨i.b,i.o,none⟩),ab E] w1 λe w'=>e=.returned (.bool true)/\ak w1 w'))(K:Hid (∀w1,ak w w1->am 112 #[.pointer (some ⟨i.b,i.o,none⟩),.agg #[ab k,ab u,af s,ae a l c]] w1 λe w'=>e=.returned (.agg #[ab V.1,ab V.2])/\Hid (mh base i room ws nm (λb=>M b/\b<w.heap.size) w1 w'))):am 73 #[.pointer (some ⟨i.b,i.o,none⟩),.agg #[ab k,ab u,af s,ae a l c]] w λe w'=>e=.returned (.tuple #[.agg #[ab V.1,ab V.2],ab 0])/\Hid (mh base i room ws nm M w w'):=by
 go_enter func73,ntmps73;go_wp2_with fail;generalize D:(w.alloc (Obj.cells #[ab k,ab u,af s,ae a l c] 31)).alloc (Obj.cells #[ab 0,ab 0] 109)=C;have A:Hid (ak w C/\w.heap.size+2<=C.heap.size/\lX w.heap.size k u s a l c C):=by
  subst D;exact⟨((aq _ _).alloc (ao _) _).alloc (by simp) _,by simp,uk _ _ _ _ _ _ _⟩
 clear D;refine(F _ A.1).mono ?_;rintro e w1 ⟨rfl,d⟩;have x:=au (fU A d);obtain⟨⟨n,p,q,r⟩,⟨j,m⟩,g,h⟩:=x.out.2.2.facts;clear d A;go_wp2_with fail;clear n p q r j m g h;refine(I _ x.1).mono ?_;rintro e P ⟨rfl,d⟩;have y:=au (fU x d);obtain⟨⟨n,p,q,r⟩,⟨j,m⟩,g,h⟩:=y.out.2.2.facts;clear d x;go_wp2_with fail;clear n p q r j m g h;refine(J _ y.1).mono ?_;rintro e Q ⟨rfl,d⟩;have z:=au (fU y d);obtain⟨⟨n,p,q,r⟩,⟨j,m⟩,g,h⟩:=z.out.2.2.facts;clear d y;go_wp2_with fail;clear n p q r j m g h;refine(H _ z.1).mono ?_;rintro e R ⟨rfl,d⟩;have f:=au (fU z d);obtain⟨⟨n,p,q,r⟩,⟨j,m⟩,g,h⟩:=f.out.2.2.facts;clear d z;go_wp2_with fail;refine(K _ f.1).mono ?_;rintro e S ⟨rfl,B⟩;have t:=vj B;have L:=(t (w.heap.size+1) (by omega) (by have:=f.2.1;omega) 0).1.trans j;have d1:=(t (w.heap.size+1) (by omega) (by have:=f.2.1;omega) 1).1.trans m;have N:=(t (w.heap.size+1) (by omega) (by have:=f.2.1;omega) 0).2.trans g;have O:=(t (w.heap.size+1) (by omega) (by have:=f.2.1;omega) 1).2.trans h;have G:=au (Bn B f.1 f.2.1 (ab V.1) (ab V.2));clear t n p q r j m g h B;go_wp2_with fail;exact az (v:=.tuple #[.agg #[ab V.1,ab V.2],ab 0]) (by simp[results,results73,go_sem,L,d1]) rfl ⟨rfl,G⟩
theorem vC:(n:Nat)->(x:Tm n)->aI ⟨n,x⟩->((aC n x).length:Int)<=sz n x+1
 | 0,_,_=>by simp[aC,sz]
 | n+1,x,h=>by
  have c:=eR (bI n x) (h (bI n x) (by simp[aC,bI]));by_cases a:x.1.1=4
  ·have key:∀l:List (Tm n),(∀y∈l,aI ⟨n,y⟩)->((l.flatMap λy=>aC n y).length:Int)<=(l.map λy=>1+sz n y).sum:=by
     intro l
     induction l with
     | nil=>intro _;simp
     | cons y l ih=>
      intro b;have g:=vC n y (b y (by simp));have i:=ih (λf e=>b f (by simp[e]));simp only[bK,bw,aU,bN];omega
   have k:=key x.2.2 (λy d=>bf n x y h d);simp only[aC,br,sz,if_pos a];omega
  ·have:x.2.2=[]:=bJ (c.2.2.2.2 a);simp[aC,this,sz,a]
theorem Jf{x:Tm n}(a:bE n x=0):ch n x=true:=by
 rw[<-gz]at a;unfold wX at a;cases hf:ch n x
 ·simp[hf]at a
 ·rfl
def jS(n:Nat)(x:Tm n)(room:Int)(ws:List Wd):Int:=if bE n x≠0 then bE n x else if aS n x=false then 5 else if decide (sz n x<=room-ws.length)=false then 6 else 0
def IV(n:Nat)(x:Tm n)(base:Nat)(a:cG)(room:Int)(ws:List Wd)(nm:List ap)(M:aR)(w:ag)(e:Ending)(w':ag):Prop:=
 (jS n x room ws≠0->e=.returned (.tuple #[IS (0,0),ab (jS n x room ws)])/\ak w w')/\
 (jS n x room ws=0->(bE n x=0/\aS n x=true/\sz n x<=room-ws.length)/\e=.returned (.tuple #[IS (bi n x ws nm).1,ab 0])/\mh base a room (bi n x ws nm).2.1 (bi n x ws nm).2.2 M w w')
theorem uY(n:Nat)(x:Tm n)(base:Nat)(e:cG)(room:Int)(ws:List Wd)(nm:List ap)(M:aR)(w:ag)(A:dM base e room ws nm M w)(m:In w.heap.size w n x)(G:cr (λb=>¬M b) n x)(B:(aC n x).length<=2097152)(S:base<=w.heap.size)(I:0<=room)(H:room<=1000)(V:ws.length<=1000)(T:nm.length<=50000):am 73 #[.pointer (some ⟨e.b,e.o,none⟩),dw n x] w (IV n x base e room ws nm M w):=by
 cases n with
 | zero=>exact m.elim
 | succ n=>
 have k:∀a,ak w a->am 53 #[dw (n+1) x] a λd g=>d=.returned (ab (bE (n+1) x))/\ak a g:=λa f=>dQ (n+1) x w.heap.size a (m.below f) f.size B;have l:∀a,ak w a->am 54 #[dw (n+1) x] a λd g=>d=.returned (.bool (aS (n+1) x))/\ak a g:=λa f=>iS (n+1) x w.heap.size a (m.below f) f.size;have z:∀a,ak w a->am 88 #[dw (n+1) x] a λd g=>d=.returned (ab (sz (n+1) x))/\ak a g:=λa f=>yv (n+1) x w.heap.size a (m.below f) f.size B;have q:∀a,ak w a->am 111 #[.pointer (some ⟨e.b,e.o,none⟩),ab (sz (n+1) x)] a λd g=>d=.returned (.bool (decide (sz (n+1) x<=room-ws.length)))/\ak a g:=by
  intro a f;obtain⟨P,N,O,K,L,W,_⟩:=A.later f;obtain⟨v,y,rfl⟩:∃v y,P=ae v ws.length y:=by
   rcases L.2 with⟨d,E⟩|⟨R,c,Q,d,_⟩
   ·exact⟨none,0,by rw[d,E]⟩
   ·exact⟨_,c,d⟩
  exact Bg e room (sz (n+1) x) v ws.length y N O a (by omega) I H K
 by_cases i:bE (n+1) x=0
 ·rw[i]at k;by_cases u:aS (n+1) x=false
  ·rw[u]at l;have d:jS (n+1) x room ws=5:=by simp[jS,i,u]
   refine(Ov e x.1.1 x.1.2.1 x.1.2.2 x.2.1.1 x.2.2.length x.2.1.2 w k l).mono ?_;rintro s g ⟨rfl,h⟩;exact⟨λ_=>⟨by rw[d];rfl,h⟩,λj=>absurd (d.symm.trans j) (by decide)⟩
  ·have r:aS (n+1) x=true:=by simpa using u
   rw[r]at l;by_cases p:sz (n+1) x<=room-ws.length
   ·have t:decide (sz (n+1) x<=room-ws.length)=true:=by simpa using p
    rw[t]at q;have d:jS (n+1) x room ws=0:=by simp[jS,i,r,p]
    have C:aI ⟨n+1,x⟩:=aT.2 (Jf i);have U:=vC (n+1) x C;have D:∀a,ak w a->am 112 #[.pointer (some ⟨e.b,e.o,none⟩),dw (n+1) x] a λd g=>d=.returned (IS (bi (n+1) x ws nm).1)/\Hid (mh base e room (bi (n+1) x ws nm).2.1 (bi (n+1) x ws nm).2.2 (λb=>M b/\b<w.heap.size) a g):=by
     intro a f;have J:=f.size;exact Mw (n+1) x base e room ws nm _ a (A.later f) ((m.below f).mono J) (G.mono λb h F=>h F.1) (by omega) C (by omega) (by omega)
    refine(Ox e x.1.1 x.1.2.1 x.1.2.2 x.2.1.1 x.2.2.length x.2.1.2 w (sz (n+1) x) (bi (n+1) x ws nm).1 base room (bi (n+1) x ws nm).2.1 (bi (n+1) x ws nm).2.2 M k l z q D).mono ?_;rintro s g ⟨rfl,h⟩;exact⟨λj=>absurd d j,λ_=>⟨⟨i,r,p⟩,rfl,h⟩⟩
   ·have t:decide (sz (n+1) x<=room-ws.length)=false:=by simpa using p
    rw[t]at q;have d:jS (n+1) x room ws=6:=by simp[jS,i,r,p]
    refine(Ow e x.1.1 x.1.2.1 x.1.2.2 x.2.1.1 x.2.2.length x.2.1.2 w (sz (n+1) x) k l z q).mono ?_;rintro s g ⟨rfl,h⟩;exact⟨λ_=>⟨by rw[d];rfl,h⟩,λj=>absurd (d.symm.trans j) (by decide)⟩
 ·have d:jS (n+1) x room ws=bE (n+1) x:=by simp[jS,i]
  refine(Ou e x.1.1 x.1.2.1 x.1.2.2 x.2.1.1 x.2.2.length x.2.1.2 w (bE (n+1) x) (by simpa using i) k).mono ?_;rintro s g ⟨rfl,h⟩;exact⟨λ_=>⟨by rw[d];rfl,h⟩,λj=>absurd (d.symm.trans j) i⟩
def qh(q:Nat)(k u:Int)(w:ag):Prop:=w.heap[q]?=some (.cells #[ab k,ab u] 109)/\qS (q+1) w
theorem Fc(w:ag)(k u:Int):qh w.heap.size k u ((w.alloc (Obj.cells #[ab k,ab u] 109)).alloc (Obj.cells #[ab 0,ab 0,af ⟨#[]⟩,ae none 0 0] 31)):=by
 refine⟨((cX (w.alloc (Obj.cells #[ab k,ab u] 109)) (Obj.cells #[ab 0,ab 0,af ⟨#[]⟩,ae none 0 0] 31) none).block _ (by simp) (by simp)).trans (aF w _),?_⟩;have:=aF (w.alloc (Obj.cells #[ab k,ab u] 109)) (Obj.cells #[ab 0,ab 0,af ⟨#[]⟩,ae none 0 0] 31);have es:∀o,(w.alloc o).heap.size=w.heap.size+1:=λo=>by simp
 rw[es]at this;exact this
theorem uU(d:ak w w1/\w.heap.size+2<=w1.heap.size/\qh w.heap.size k u w1)(a:ak w1 w2):ak w w2/\w.heap.size+2<=w2.heap.size/\qh w.heap.size k u w2:=by
 obtain⟨b,e,c⟩:=d;have:=a.size;exact⟨b.trans (a.mono b.size),by omega,(a.block _ (by omega)).trans c.1,(a.block _ (by omega)).trans c.2⟩
theorem qh.cells{q:Nat}{k u:Int}{w:ag}(a:qh q k u w):w.cell? ⟨q,0,none⟩=some (ab k)/\w.cell? ⟨q,1,none⟩=some (ab u):=by
 obtain⟨b,_⟩:=a;refine⟨?_,?_⟩
 all_goals simp[World.cell?,b]
theorem Pw(c:cG)(k u:Int)(w:ag)(i:Hid (∀w1,ak w w1->am 113 #[.pointer (some ⟨c.b,c.o,none⟩),.agg #[ab k,ab u]] w1 λe w'=>e=.returned (.bool false)/\ak w1 w')):am 99 #[.pointer (some ⟨c.b,c.o,none⟩),.agg #[ab k,ab u]] w λe w'=>e=.returned (.tuple #[.agg #[ab 0,ab 0,af .empty,ae none 0 0],ab 1])/\ak w w':=by
 go_enter func99,ntmps99;go_wp2_with fail;generalize g:(w.alloc (Obj.cells #[ab k,ab u] 109)).alloc (Obj.cells #[ab 0,ab 0,af ⟨#[]⟩,ae none 0 0] 31)=f;have a:Hid (ak w f/\w.heap.size+2<=f.heap.size/\qh w.heap.size k u f):=by
  subst g;exact⟨((aq _ _).alloc (ao _) _).alloc (by simp) _,by simp,Fc _ _ _⟩
 clear g;refine(i _ a.1).mono ?_;rintro e w1 ⟨rfl,d⟩;have h:=au (uU a d);obtain⟨⟨l,m,n,p⟩,x⟩:=h.2.2.2.cells;have j:=au (λq r s t=>yP a.1 d q r s t);clear d a;go_wp2_with fail;exact az (v:=.tuple #[.agg #[ab 0,ab 0,af .empty,ae none 0 0],ab 1]) (by simp[results,results99,go_sem,l,m,n,p];rfl) rfl ⟨rfl,j _ _ _ _⟩
theorem Oh(n:Nat)(x:Tm (n+1))(c:cG)(k u:Int)(w:ag)(A:Hid (∀w1,ak w w1->am 113 #[.pointer (some ⟨c.b,c.o,none⟩),.agg #[ab k,ab u]] w1 λe w'=>e=.returned (.bool true)/\ak w1 w'))(C:Hid (∀w1,ak w w1->am 140 #[.pointer (some ⟨c.b,c.o,none⟩),.agg #[ab k,ab u]] w1 λe w'=>∃y:Tm (n+1),e=.returned (dw (n+1) y)/\Hid (ak w1 w'/\In w'.heap.size w' (n+1) y/\cr (λq=>w1.heap.size<=q) (n+1) y/\aB (n+1) y (n+1) x=true))):am 99 #[.pointer (some ⟨c.b,c.o,none⟩),.agg #[ab k,ab u]] w λe w'=>∃y:Tm (n+1),e=.returned (.tuple #[dw (n+1) y,ab 0])/\Hid (ak w w'/\In w'.heap.size w' (n+1) y/\cr (λq=>w.heap.size<=q) (n+1) y/\aB (n+1) y (n+1) x=true):=by
 go_enter func99,ntmps99;go_wp2_with fail;generalize s:(w.alloc (Obj.cells #[ab k,ab u] 109)).alloc (Obj.cells #[ab 0,ab 0,af ⟨#[]⟩,ae none 0 0] 31)=l;have i:Hid (ak w l/\w.heap.size+2<=l.heap.size/\qh w.heap.size k u l):=by
  subst s;exact⟨((aq _ _).alloc (ao _) _).alloc (by simp) _,by simp,Fc _ _ _⟩
 clear s;refine(A _ i.1).mono ?_;rintro e w1 ⟨rfl,r⟩;have a:=au (uU i r);obtain⟨L,M⟩:=a.out.2.2.cells;clear r i;go_wp2_with fail;refine(C _ a.1).mono ?_;rintro e m ⟨y,rfl,j⟩;have z:=au (uU a j.1);obtain⟨⟨H,I,J,K⟩,N⟩:=z.2.2.2.cells;have B:Hid (∀d f g h,ak w (di m (w.heap.size+1) 0 d f g h)/\In (di m (w.heap.size+1) 0 d f g h).heap.size (di m (w.heap.size+1) 0 d f g h) (n+1) y/\cr (λq=>w.heap.size<=q) (n+1) y/\aB (n+1) y (n+1) x=true):=by
  intro d f g h;obtain⟨E,F,t,G⟩:=j.out;have O:=a.2.1;refine⟨yP a.1 E d f g h,?_,t.mono λq D=>by omega,G⟩;rw[bA];exact In.off (λq D=>bj (by omega) _ _ _ _) t F
 have p:dw (n+1) y=.agg #[ab y.1.1,ab y.1.2.1,af y.1.2.2,ae y.2.1.1 y.2.2.length y.2.1.2]:=rfl;rw[p];clear L M j a p;go_wp2_with fail;exact az (v:=.tuple #[dw (n+1) y,ab 0]) (by simp[results,results99,go_sem,H,I,J,K,dw]) rfl ⟨y,rfl,B _ _ _ _⟩
theorem D0{c:Type}{l b:List c}(d:l <+:b){i:Nat}{x:c}(a:l[i]?=some x):b[i]?=some x:=by
 obtain⟨e,rfl⟩:=d;rw[dx (aX.1 a).1];exact a
theorem dN.mono{ws l:List Wd}{nm k:List ap}(d:ws <+:l)(j:nm <+:k):{n:Nat}->{x:Tm n}->{v:Wd}->dN ws nm n x v->dN l k n x v
 | 0,_,_,h=>h
 | n+1,x,v,h=>by
  obtain⟨a,b,c⟩:=h;refine⟨λe=>?_,λe=>?_,c⟩
  ·obtain⟨i,f,g⟩:=a e;exact⟨i,f,D0 j g⟩
  ·obtain⟨p,f,g,m,o⟩:=b e;refine⟨p,f,D0 d g,aD m d.length_le,λi y s=>?_⟩;obtain⟨u,q,r⟩:=o i y s;exact⟨u,D0 d q,r.mono d j⟩
theorem GZ(nm:List ap)(s:ap):nm <+:eT nm s:=by
 unfold eT;split
 ·exact gG _
 ·exact pB _ _
theorem rD(f:∀(x:Tm n)(ws:List Wd)(nm:List ap),ws <+:(bi n x ws nm).2.1/\nm <+:(bi n x ws nm).2.2)(l:List (Tm n))(ws:List Wd)(nm:List ap):ws <+:(bQ (bi n) l ws nm).2.1/\nm <+:(bQ (bi n) l ws nm).2.2:=by
 induction l generalizing ws nm with
 | nil=>exact⟨gG _,gG _⟩
 | cons a l ih=>
  obtain⟨d,b⟩:=f a ws nm;obtain⟨c,e⟩:=ih (bi n a ws nm).2.1 (bi n a ws nm).2.2;exact⟨d.trans c,b.trans e⟩
theorem mC:(n:Nat)->(x:Tm n)->(ws:List Wd)->(nm:List ap)->ws <+:(bi n x ws nm).2.1/\nm <+:(bi n x ws nm).2.2
 | 0,_,_,_=>⟨gG _,gG _⟩
 | n+1,x,ws,nm=>by
  by_cases c:x.1.1=2
  ·simp only[bi,if_pos c];exact⟨gG _,GZ _ _⟩
  ·by_cases d:x.1.1=4
   ·simp only[bi,if_neg c,if_pos d];obtain⟨a,b⟩:=rD (mC n) x.2.2 ws nm;exact⟨a.trans (pB _ _),b⟩
   ·simp only[bi,if_neg c,if_neg d];exact⟨gG _,gG _⟩
theorem Kj(nm:List ap)(s:ap):(eT nm s)[lB (eT nm s) s]?=some s:=by
 have d:s∈eT nm s:=by
  unfold eT;split
  ·rename_i b;exact(zy nm s).1 b
  ·simp
 have a:lB (eT nm s) s<(eT nm s).length:=by
  unfold lB;rw[List.findIdx_lt_length];exact⟨s,d,(oS s s).2 rfl⟩
 have c:(eT nm s)[lB (eT nm s) s]'a=s:=(oS s _).1 (List.findIdx_getElem (w:=a));rw[aM a,c]
theorem ou(h:∀(x:Tm n)(ws:List Wd)(nm:List ap),aI ⟨n,x⟩->dN (bi n x ws nm).2.1 (bi n x ws nm).2.2 n x (bi n x ws nm).1)(l:List (Tm n))(ws:List Wd)(nm:List ap)(d:∀y∈l,aI ⟨n,y⟩):∀(i:Nat)(y:Tm n),l[i]?=some y->∃u,(bQ (bi n) l ws nm).1[i]?=some u/\dN (bQ (bi n) l ws nm).2.1 (bQ (bi n) l ws nm).2.2 n y u:=by
 induction l generalizing ws nm with
 | nil=>intro i y a;simp at a
 | cons c l ih=>
  intro i y a;cases i with
  | zero=>
   simp at a;subst a;obtain⟨e,b⟩:=rD (mC n) l (bi n c ws nm).2.1 (bi n c ws nm).2.2;exact⟨(bi n c ws nm).1,rfl,(h c ws nm (d c (by simp))).mono e b⟩
  | succ i=>
   obtain⟨u,f,g⟩:=ih (bi n c ws nm).2.1 (bi n c ws nm).2.2 (λy a=>d y (by simp[a])) i y (by simpa using a);exact⟨u,by simpa [bQ]using f,g⟩
theorem gS:(n:Nat)->(x:Tm n)->(ws:List Wd)->(nm:List ap)->aI ⟨n,x⟩->dN (bi n x ws nm).2.1 (bi n x ws nm).2.2 n x (bi n x ws nm).1
 | 0,_,_,_,h=>(dq h).elim
 | n+1,x,ws,nm,h=>by
  by_cases b:x.1.1=2
  ·have c:¬x.1.1=4:=by omega
   simp only[bi,if_pos b];exact⟨λ_=>⟨_,rfl,Kj _ _⟩,λa=>absurd a c,λa=>absurd b a⟩
  ·by_cases c:x.1.1=4
   ·simp only[bi,if_neg b,if_pos c];have j:=gT (bi n) x.2.2 ws nm;refine⟨λa=>absurd a b,λ_=>⟨_,rfl,?_,?_,λe f d=>?_⟩,λ_ a=>absurd c a⟩
    ·rw[eq (ao _),hU];rfl
    ·simp only[bw,br,j];omega
    ·obtain⟨k,g,i⟩:=ou (gS n) x.2.2 ws nm (λf d=>bf n x f h d) e f d;refine⟨k,?_,i.mono (pB _ _) (gG _)⟩;rw[eq (by omega)];have:(bQ (bi n) x.2.2 ws nm).2.1.length+1+e-(bQ (bi n) x.2.2 ws nm).2.1.length=e+1:=by omega
     rw[this];simpa using g
   ·simp only[bi,if_neg b,if_neg c];exact⟨λa=>absurd a b,λa=>absurd a c,λ_ _=>rfl⟩
def Av(q:Nat)(w:ag):Prop:=w.heap[q]?=some (.cells #[ab 0,ab 0] 109)
theorem Av.facts(a:Av q w):(w.cell? ⟨q,0,none⟩=some (ab 0)/\w.cell? ⟨q,1,none⟩=some (ab 0))/\w.frozen? ⟨q,0,none⟩=false/\w.frozen? ⟨q,1,none⟩=false:=by
 unfold Av at a;refine⟨⟨?_,?_⟩,?_,?_⟩
 all_goals simp[World.cell?,World.frozen?,a]
theorem Cp{x:Tm n}{v:Wd}(h:dN ws nm n x v)(r:aI ⟨n,x⟩)(g:aS n x=true)(t:ws.length<=100000)(s:nm.length<=100000):cT ws nm v=true/\dC v.2:=by
 cases n with
 | zero=>exact h.elim
 | succ n=>
 have d:=r (bI n x) (by simp[aC,bI]);have i:=kC (bI n x) d;simp only[bI]at i;simp only[aS,aK,kL,iH]at g;obtain⟨m,b,c⟩:=h;by_cases e:x.1.1=2
 ·obtain⟨k,rfl,p⟩:=m e;have j:=(aX.1 p).1;refine⟨?_,?_⟩
  ·simp[cT,uX,j]
  ·unfold dC;show (-9223372036854775808:Int)<=(k:Int)/\(k:Int)<=9223372036854775807;omega
 ·by_cases f:x.1.1=4
  ·obtain⟨l,rfl,q,j,_⟩:=b f;refine⟨?_,?_⟩
   ·simp[cT,f9,q]
   ·unfold dC;show (-9223372036854775808:Int)<=(l:Int)/\(l:Int)<=9223372036854775807;omega
  ·obtain rfl:=c e f;refine⟨?_,(uV _ d).2⟩;have o:x.1.1=1\/x.1.1=3:=by
    rcases i with a|a|a|a|a|a
    ·exact ai a
    ·exact absurd a e
    ·exact aj a
    ·exact absurd a f
    ·exact absurd a g.1.1
    ·exact absurd a.1 g.1.2
   unfold cJ at d;simp only[bI]at d;rcases o with a|a
   ·simp[cT,a]at d ⊢;exact d.1.2
   ·simp[cT,a]at d ⊢;exact d.1.2
theorem JO(n:Nat)(x:Tm n)(v:Wd)(base:Nat)(a:cG)(room:Int)(ws:List Wd)(nm:List ap)(M:aR)(w:ag)(h:dM base a room ws nm M w)(d:dN ws nm n x v)(j:aI ⟨n,x⟩)(m:aS n x=true)(f:ws.length<=100000)(i:nm.length<=100000):am 99 #[.pointer (some ⟨a.b,a.o,none⟩),IS v] w λe w'=>∃y:Tm n,e=.returned (.tuple #[dw n y,ab 0])/\Hid (ak w w'/\In w'.heap.size w' n y/\cr (λq=>w.heap.size<=q) n y/\aB n y n x=true):=by
 cases n with
 | zero=>exact d.elim
 | succ n=>
 obtain⟨l,p⟩:=Cp d j m f i;refine Oh n x a v.1 v.2 w ?_ ?_
 ·intro g c;have k:=vW base a room ws nm _ v g (h.later c) f p;rw[l]at k;exact k
 ·exact λg c=>K4 (n+1) x v base a room ws nm _ g (h.later c) f i d j
abbrev df:=List (Nat×Nat)
def look(g:df)(p:Nat):Option Nat:=(g.find? λe=>e.1==p).map λe=>e.2
theorem sG(g:df)(p q:Nat):look ((p,q)::g) p=some q:=by simp[look]
theorem qw(g:df){r:Nat}(q:Nat)(a:r≠p):look ((p,q)::g) r=look g r:=by
 have:(p==r)=false:=by simp;omega
 simp[look,this]
def gR(f:Wd->List Wd×df->Wd×List Wd×df):List Wd->List Wd×df->List Wd×List Wd×df
 | [],S=>([],S)
 | v::l,S=>((f v S).1::(gR f l (f v S).2).1,(gR f l (f v S).2).2)
def jQ(ws:List Wd):Nat->Wd->List Wd×df->Wd×List Wd×df
 | 0,v,S=>(v,S)
 | n+1,v,S=>
  if v.1=4 then
   match look S.2 v.2.toNat with
   | some q=>((4,(q:Int)),S)
   | none=>
    match ws[v.2.toNat]? with
    | some a=>((4,((gR (jQ ws n) ((ws.drop (v.2.toNat+1)).take a.2.toNat) S).2.1.length:Int)),(gR (jQ ws n) ((ws.drop (v.2.toNat+1)).take a.2.toNat) S).2.1++(0,a.2)::(gR (jQ ws n) ((ws.drop (v.2.toNat+1)).take a.2.toNat) S).1,(v.2.toNat,(gR (jQ ws n) ((ws.drop (v.2.toNat+1)).take a.2.toNat) S).2.1.length)::(gR (jQ ws n) ((ws.drop (v.2.toNat+1)).take a.2.toNat) S).2.2)
    | none=>(v,S)
  else (v,S)
theorem Jm(f:Wd->List Wd×df->Wd×List Wd×df)(l:List Wd)(v:Wd)(S:List Wd×df):gR f (l++ [v]) S=((gR f l S).1++ [(f v (gR f l S).2).1],(f v (gR f l S).2).2):=by
 induction l generalizing S with
 | nil=>simp[gR]
 | cons a l ih=>simp[gR,ih]
theorem qp(f:Wd->List Wd×df->Wd×List Wd×df)(l:List Wd)(S:List Wd×df):(gR f l S).1.length=l.length:=by
 induction l generalizing S with
 | nil=>simp[gR]
 | cons a l ih=>simp[gR,ih]
def ux(D:DataW Unit)(g:df):Prop:=∀p:Nat,(Maps.has D (.int .i64 p)=true ↔ (look g p).isSome=true)/\∀q:Nat,look g p=some q->D.atKey (.int .i64 p) (.lit (.int .i64 0))=.lit (.int .i64 q)
theorem Lo:ux (.map []) []:=λp=>⟨by simp[Maps.has,look],λq a=>by simp[look]at a⟩
theorem Fq(k:Int):WideAt.IsKeyLit (.int .i64 k):=by first|trivial|simp[WideAt.IsKeyLit]|decide
theorem Lp{w:World}{g:df}(h:w.ownsMap Tryz.prog 3 (plainElem Tryz.prog 3) e L D)(f:ux D g)(p q:Nat):ux (D.put (.int .i64 p) (.lit (.int .i64 q))) ((p,q)::g):=by
 intro c;by_cases b:c=p
 ·subst b;refine⟨?_,λj a=>?_⟩
  ·rw[has_put_same h.isMap (Fq _),sG];simp
  ·rw[sG]at a;rw[atKey_put_same h.isMap (Fq _),aA a]
 ·have i:(Lit.int .i64 (c:Int))≠(Lit.int .i64 (p:Int)):=λd=>b (by injection d with _ d;omega);refine⟨?_,λj a=>?_⟩
  ·rw[has_put_other i,qw g q b];exact(f c).1
  ·rw[qw g q b]at a;rw[atKey_put_other i];exact(f c).2 j a
theorem Dw:Keyed Tryz.prog 3:=int_keyed underlying3
def CB(a:Nat)(b tv mv:Value)(w:World):Prop:=w.heap[a]?=some (.cells #[b,tv,mv] 206)
theorem CB.lt{w:World}(a:CB e f tv mv w):e<w.heap.size:=(aJ.1 a).1
theorem CB.cells{a:Nat}{b tv mv:Value}{w:World}(c:CB a b tv mv w):(w.cell? ⟨a,0,none⟩=some b/\w.cell? ⟨a,1,none⟩=some tv/\w.cell? ⟨a,2,none⟩=some mv)/\∀j,w.frozen? ⟨a,j,none⟩=false:=by
 unfold CB at c;refine⟨⟨?_,?_,?_⟩,λj=>?_⟩
 all_goals simp[World.cell?,World.frozen?,c]
theorem CB.set1{w:World}(a:CB e f tv mv w)(v:Value):CB e f v mv (w.setCell ⟨e,1,none⟩ v):=by
 unfold CB at*;simp[World.setCell,bO,a]
theorem CB.kept{a:Nat}{b tv mv:Value}{w w':World}(c:CB a b tv mv w)(k:w'.heap[a]?=w.heap[a]?):CB a b tv mv w':=k.trans c
def iK(base e:Nat)(f:Value)(S:List Wd×df)(M:Nat->Prop)(w:World):Prop:=
 ∃c a d,CB e f c (.map (some a)) w/\w.ownsRow base 109 2 c S.1.length (bk S.1)/\w.ownsMap Tryz.prog 3 (plainElem Tryz.prog 3) a S.2.length d/\ux d S.2/\M e/\(∀b,c.ownBlock=some b->M b)/\M a
theorem iK.kept{base a:Nat}{g:Value}{S:List Wd×df}{M T:Nat->Prop}{w w':World}(q:iK base a g S M w)(k:bZ T w w')(d:∀b,M b->b<w.heap.size->¬T b):iK base a g S M w':=by
 obtain⟨u,e,o,c,h,i,r,j,l,m⟩:=q;refine⟨u,e,o,c.kept (k.block a c.lt (d a j c.lt)),ee h k λb f=>d b (l b f) (h.lt b f).2,?_,r,j,l,m⟩;have n:=i.lt;obtain⟨es,p,s,t⟩:=i;exact⟨es,p,(k.block e n (d e m n)).trans s,t⟩
variable{S:List Wd×df}
theorem iK.inside{w:World}(i:iK base e f S M w):iK base e f S (λb=>M b/\b<w.heap.size) w:=by
 obtain⟨o,n,h,c,d,g,j,k,l,m⟩:=i;exact⟨o,n,h,c,d,g,j,⟨k,c.lt⟩,λb a=>⟨l b a,(d.lt b a).2⟩,m,g.lt⟩
theorem iK.later{w wA:World}(a:iK base e f S M w)(c:Below w.heap.size w wA):iK base e f S (λb=>M b/\b<w.heap.size) wA:=
 a.inside.kept (bm c (λ_=>False)) λ_ _ _ a=>a
theorem iK.mono{T:Nat->Prop}{w:World}(d:iK base e f S M w)(k:∀b,M b->T b):iK base e f S T w:=by
 obtain⟨p,o,a,g,h,i,j,l,m,n⟩:=d;exact⟨p,o,a,g,h,i,j,k _ l,λb c=>k b (m b c),k _ n⟩
theorem Kn(a:Nat)(k u:Int)(w:World)(b:¬k=4):Calls Tryz.prog 151 #[.pointer (some ⟨a,0,none⟩),.agg #[.int .i64 k,.int .i64 u]] w λe w'=>e=.returned (.agg #[.int .i64 k,.int .i64 u])/\Below w.heap.size w w':=by
 have c:(k !=4)=true:=by simpa using b
 go_enter func151,ntmps151;go_wp2_with fail;exact az (v:=.agg #[.int .i64 k,.int .i64 u]) (by simp[results,results151,go_sem]) rfl ⟨rfl,by go_grown⟩
theorem Nh{g:df}(b:ux D g){c:Int}(d:look g p=some q)(a:D.atKey (.int .i64 p) (.lit (.int .i64 0))=.lit (.int .i64 c)):c=q:=by
 have:=(b p).2 q d;rw[this]at a;simp at a;exact a.symm
theorem MH(base g:Nat)(x:Value)(S:List Wd×df)(M:Nat->Prop)(p q:Nat)(w:World)(a:Hid (iK base g x S M w))(r:Hid (look S.2 p=some q))(P:p<=100000):Calls Tryz.prog 151 #[.pointer (some ⟨g,0,none⟩),.agg #[.int .i64 4,.int .i64 p]] w λe w'=>e=.returned (.agg #[.int .i64 4,.int .i64 q])/\Below w.heap.size w w':=by
 go_enter func151,ntmps151;go_wp2_with fail;generalize h:(w.alloc (Obj.cells #[Value.int IntKind.i64 4,Value.int IntKind.i64 p] 109)).alloc (Obj.cells #[.int .i64 0,.int .i64 0] 109)=wA;have j:Hid (Below w.heap.size w wA.drew/\wA.drew.heap.size=w.heap.size+2):=by
  subst h;exact⟨(((aq _ _).alloc (ao _) _).alloc (by simp) _).drew,by simp[World.drew]⟩
 have K:wA.cell? ⟨w.heap.size,1,none⟩=some (.int .i64 p):=by subst h;simp[go_sem]
 have l:Hid (Av (w.heap.size+1) wA.drew):=by
  subst h;have:=aF (w.alloc (Obj.cells #[Value.int IntKind.i64 4,Value.int IntKind.i64 p] 109)) (Obj.cells #[.int .i64 0,.int .i64 0] 109);have es:∀o,(w.alloc o).heap.size=w.heap.size+1:=λo=>by simp
  rw[es]at this;exact this
 obtain⟨d,J,D⟩:∃d,wA.cell? ⟨g,2,none⟩=some (.map (some d))/\(Instr.lookup 204 (.map (some d)) (.int .i64 p) true).run Tryz.prog wA.drew=.ok (.tuple #[.int .i64 q,.bool true]) wA.drew:=by
  obtain⟨Q,d,t,y,O,z,m,_⟩:=a.out.later j.1;obtain⟨v,ps,s,E⟩:=z.look_ok Dw underlying204 (sf _) (plainElem_int underlying3 (iF (by omega))) (keyOf_int_mk underlying3 (iF (n:=(p:Int)) (by omega)));obtain⟨c,rfl,B,_⟩:=plainElem_int_inv underlying3 E;have e:=Nh m r (congrArg Prod.fst B);have C:Maps.has t (.int .i64 p)=true:=(m p).1.2 (by rw[r.out];rfl);rw[C,e]at s;exact⟨d,y.cells.1.2.2,s⟩
 clear h a;go_region_held3 (λw'=>w'.cell? ⟨w.heap.size,1,none⟩=some (.int .i64 p)/\w'.cell? ⟨g,2,none⟩=some (.map (some d))) (go_keep) (fail);obtain⟨⟨H,I⟩,L,N⟩:=l.out.facts;have u:Hid (∀i k,Below w.heap.size w ((wA.drew.setCell ⟨w.heap.size+1,0,none⟩ i).setCell ⟨w.heap.size+1,1,none⟩ k)):=by
  intro i k;have F:=bz wA.drew (w.heap.size+1) 0 i;have G:=bz (wA.drew.setCell ⟨w.heap.size+1,0,none⟩ i) (w.heap.size+1) 1 k;have f:=(bm j.1 (λb=>b=w.heap.size+1)).trans (F.trans G (λb _ a=>a)) (λb _ a=>a);exact⟨f.os,f.tape,f.output,f.size,λb A=>f.block b A (by omega)⟩
 clear D l j;generalize wA.drew=R at*;go_wp2_with fail;exact az (v:=.agg #[.int .i64 4,.int .i64 q]) (by simp[results,results151,go_sem,H,I]) rfl ⟨rfl,u _ _⟩
end Go.Proofs.YtmmahddlcldmiaaGreat
