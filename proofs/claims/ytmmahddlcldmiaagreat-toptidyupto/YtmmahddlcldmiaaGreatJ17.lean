/- Proved here: plain facts and contracts. No condition but what each names. -/
import Derived.Test.YtmmahddlcldmiaaGreatJ16
namespace Go.Proofs.YtmmahddlcldmiaaGreat
open Go.RowKit Go.Maps Tryz
open Go.RowKit
set_option maxHeartbeats 1000000
set_option maxRecDepth 100000
def xd(base a:Nat)(c:av)(S:List Wd×df)(M:aR)(w w':ag):Prop:=iK base a c S (λb=>M b\/w.heap.size<=b) w'/\bZ M w w'
def yA(f:Wd->List Wd×df->Wd×List Wd×df)(vs:List Wd)(len base c:Nat)(d:av)(S:List Wd×df)(M:aR)(g:Nat)(w a:ag)(k:Nat)(wr:ag):Prop:=
 wr.ownsRow g 109 2 (ae (some ⟨g,0,none⟩) len len) len (bk ((gR f (vs.take k) S).1++List.replicate (len-k) (0,0)))/\
 iK base c d (gR f (vs.take k) S).2 (λb=>(M b/\b<w.heap.size)\/a.heap.size<=b) wr/\
 bZ (λb=>(M b/\b<w.heap.size)\/b=g) a wr
variable{D:DataW Unit}{room:Int}{b vs ws:List Wd}{R:List Wd×List Wd×df}{S:List Wd×df}{nm:List ap}{xs:List av}{c B L N base g k len m n p s:Nat}{h:Type}{e:TypeId}{v:Wd}{f:Wd->List Wd×df->Wd×List Wd×df}{M:aR}{i w w' w1 w2 wr:ag}{d mv tv:av}{a:aw}{j:cG}{x:h}{l:List h}
theorem I4{w0:ag}(g:iK base c d S M w)(h:w0.ownsRow w.heap.size 109 2 (ae (some ⟨w.heap.size,0,none⟩) len len) len (madeCells (Value.agg #[ab 0,ab 0]).cells (len*2)).toList)(a:w.grownBy w0 none):yA f vs len base c d S M w.heap.size w w0 0 w0/\ak w w0/\w.heap.size<w0.heap.size:=by
 have e:ak w w0:=⟨a.os,a.tape,a.output,a.size,λb e=>a.block b e (by simp)⟩;refine⟨⟨?_,?_,bZ.refl _ _⟩,e,(h.lt _ rfl).2⟩
 ·simp only[nd,gR,jO,Nat.sub_zero];have i:=vv len;have j:(Value.agg #[ab 0,ab 0]).cells= #[ab 0,ab 0]:=rfl;rw[j,i]at h;exact h
 ·simp only[nd,gR];exact(g.later e).mono λb g=>ai g
theorem yA.step(H:yA f vs len base c d S M g w i k wr)(G:w.heap.size<=g)(I:g<i.heap.size)(K:k<len)(L:vs.length=len)(A:vs[k]?=some v)(m:ak wr w1)(z:xd base c d (f v (gR f (vs.take k) S).2).2 (λb=>((M b/\b<w.heap.size)\/i.heap.size<=b)/\b<wr.heap.size) w1 w2):yA f vs len base c d S M g w i (k+1) ((w2.setCell ⟨g,k*2,none⟩ (ab (f v (gR f (vs.take k) S).2).1.1)).setCell ⟨g,k*2+1,none⟩ (ab (f v (gR f (vs.take k) S).2).1.2))/\ (w2.cell? ⟨g,k*2,none⟩=some (ab 0)/\w2.cell? ⟨g,k*2+1,none⟩=some (ab 0))/\w2.frozen? ⟨g,k*2,none⟩=false/\w2.frozen? ⟨g,k*2+1,none⟩=false:=by
 obtain⟨o,E,p⟩:=H;obtain⟨u,q⟩:=z;have J:g<wr.heap.size:=(o.lt g rfl).2;have N:=m.size;have O:=p.size;have r:gR f (vs.take (k+1)) S=((gR f (vs.take k) S).1++ [(f v (gR f (vs.take k) S).2).1],(f v (gR f (vs.take k) S).2).2):=by
  rw[dz,A];exact Jm _ _ _ _
 have s:(gR f (vs.take k) S).1.length=k:=by rw[qp,dL];omega
 have j:w2.ownsRow g 109 2 (ae (some ⟨g,0,none⟩) len len) len (bk ((gR f (vs.take k) S).1++List.replicate (len-k) (0,0))):=by
  refine ee (dY o m) q λb l=>?_;simp only[Value.ownBlock]at l;obtain rfl:=aA l;omega
 generalize gR f (vs.take k) S=h at*;generalize f v h.2=e at*;have B:(h.1++List.replicate (len-k) (0,0))[k]?=some ((0,0):Wd):=by
  rw[eq (by omega),s,hU,List.getElem?_replicate];simp;omega
 have C:=bz w2 g (k*2) (ab e.1.1);have D:=bz (w2.setCell ⟨g,k*2,none⟩ (ab e.1.1)) g (k*2+1) (ab e.1.2);have t:=C.trans D (λb _ a=>a);refine⟨⟨?_,?_,?_⟩,jk j k (0,0) B,o8 j _,o8 j _⟩
 ·rw[r];have n:=jw (jw j (k*2) (ab e.1.1)) (k*2+1) (ab e.1.2);rw[qN _ k e.1 (by simp;omega)]at n;have es:(h.1++List.replicate (len-k) ((0,0):Wd)).set k e.1=(h.1++ [e.1])++List.replicate (len-(k+1)) (0,0):=by
   rw[iE _ _ (by omega)];have:len-k=(len-(k+1))+1:=by omega
   rw[this,List.replicate_succ];simp[s]
  rw[es]at n;exact n
 ·rw[r];refine(u.kept t ?_).mono ?_
  ·rintro b (⟨a,_⟩|a) _ l<;>omega
  ·rintro b (⟨a,_⟩|a)
   ·exact a
   ·exact aj (by omega)
 ·have x:bZ (λb=>(M b/\b<w.heap.size)\/b=g) i w1:=p.trans (bm m (λ_=>False)) (λ_ _ a=>a.elim)
  have y:bZ (λb=>(M b/\b<w.heap.size)\/b=g) i w2:=x.trans q (λb F a=>by
   rcases a.1 with a|a
   ·exact ai a
   ·omega)
  exact y.trans t (λb _ a=>aj a)
def CU(f:Wd->List Wd×df->Wd×List Wd×df)(vs:List Wd)(base c:Nat)(d:av)(S:List Wd×df)(M:aR)(g:Nat)(w w':ag):Prop:=
 ∃a,iK base c d (gR f vs S).2 a w'/\bZ M w w'/\(∀b,a b->M b\/w.heap.size<=b)/\¬a g/\w.heap.size<=g/\w'.ownsRow g 109 2 (ae (some ⟨g,0,none⟩) vs.length vs.length) vs.length (bk (gR f vs S).1)
theorem yA.done(H:yA f vs len base c d S M g w i len wr)(m:vs.length=len)(l:w.heap.size<=g)(o:g<i.heap.size)(j:ak w i):CU f vs base c d S M g w wr:=by
 obtain⟨e,h,k⟩:=H;rw[bF (by omega)]at e h;rw[hU,nb,eK]at e;subst m;refine⟨_,h,(bm j M).trans k ?_,?_,?_,l,e⟩
 ·rintro b n (a|a)
  ·exact a.1
  ·omega
 ·rintro b (a|a)
  ·exact ai a.1
  ·exact aj (by have:=j.size;omega)
 ·rintro (a|a)<;>omega
theorem yZ(f:Wd->List Wd×df->Wd×List Wd×df)(vs:List Wd)(base d:Nat)(i:av)(S:List Wd×df)(M:aR)(a:aw)(len pc:Nat)(w:ag)(s:Hid (vs.length=len))(aa:len<=100000)(c:Hid (iK base d i S M w))(D:Hid (eW w vs a))(H:Hid (∀b o,a=some ⟨b,o,none⟩->¬M b))(ih:Hid (∀(k:Nat)(v:Wd),vs[k]?=some v->∀(M':aR)(w1:ag),iK base d i (gR f (vs.take k) S).2 M' w1->bZ M w w1->(∀b,M' b->M b\/w.heap.size<=b)-> am 151 #[aH d,.agg #[ab v.1,ab v.2]] w1 λe w2=>e=.returned (.agg #[ab (f v (gR f (vs.take k) S).2).1.1,ab (f v (gR f (vs.take k) S).2).1.2])/\Hid (xd base d i (f v (gR f (vs.take k) S).2).2 M' w1 w2))):am 114 #[aH d,ae a len pc] w λe w'=>∃g,e=.returned (ae (some ⟨g,0,none⟩) len len)/\Hid (CU f vs base d i S M g w w'):=by
 obtain⟨Q,E,J,K,L⟩:=bW lp;go_enter func114,ntmps114;go_wp2_with (at_make;refine kY _ rfl _ _ 100 rfl w.heap.size 109 Q _ 2 underlying100 E J K _ _ _ _ len rfl rfl rfl rfl (by rw[L];omega) (by unfold maxLen;omega) (ao _) ?_;intro p I C;have m:=au (I4 (f:=f) (vs:=vs) c I C);clear I C);clear E J K L;have y:Hid (yA f vs len base d i S M w.heap.size w p 0 p):=m.1;have B:w.heap.size<p.heap.size:=m.2.2;go_loopw [13] (λj wr=>∃k:Nat,k<=len/\j=ab k/\Hid (yA f vs len base d i S M w.heap.size w p k wr)) (λj _=>len-(intOf j).toNat)
 case atStart=>exact⟨0,by omega,rfl,y⟩
 case round=>
  clear y;obtain⟨k,X,rfl,h⟩:=hrel;by_cases G:k<len
  ·obtain⟨v,l⟩:∃v,vs[k]?=some v:=⟨vs[k]'(by rw[s.out];exact G),aM _⟩;obtain⟨b,o,rfl,A,N⟩:∃b o,a=some ⟨b,o,none⟩/\b<w.heap.size/\∀(j:Nat)(v:Wd),vs[j]?=some v->w.cell? ⟨b,o+j*2,none⟩=some (ab v.1)/\w.cell? ⟨b,o+j*2+1,none⟩=some (ab v.2):=by
    rcases D.out with e|e
    ·rw[e]at l;simp at l
    ·exact e
   obtain⟨t,u⟩:=N k v l;have r:wr.heap[b]?=w.heap[b]? :=(h.2.2.block b (by omega) (by rintro (c|c);exact H b o rfl c.1;omega)).trans (m.2.1.block b A);replace t:=(bD r (o+k*2)).trans t;replace u:=(bD r (o+k*2+1)).trans u;have W:w.heap.size<wr.heap.size:=(h.1.lt _ rfl).2;have ad:=h.2.2.size;have F:bZ M w wr:=(bm m.2.1 M).trans h.2.2 (by rintro b A (c|c);exact c.1;omega)
   obtain⟨n,x⟩:∃n:Wd,Hid (∀w1,ak wr w1->am 151 #[aH d,.agg #[ab v.1,ab v.2]] w1 λe w2=>e=.returned (.agg #[ab n.1,ab n.2])/\
       Hid (yA f vs len base d i S M w.heap.size w p (k+1) ((w2.setCell ⟨w.heap.size,k*2,none⟩ (ab n.1)).setCell ⟨w.heap.size,k*2+1,none⟩ (ab n.2))/\
        (w2.cell? ⟨w.heap.size,k*2,none⟩=some (ab 0)/\w2.cell? ⟨w.heap.size,k*2+1,none⟩=some (ab 0))/\w2.frozen? ⟨w.heap.size,k*2,none⟩=false/\w2.frozen? ⟨w.heap.size,k*2+1,none⟩=false)):=by
    refine⟨(f v (gR f (vs.take k) S).2).1,λw1 q=>?_⟩;refine(ih k v l _ w1 (h.2.1.later q) (F.trans (bm q M) (λ_ _ c=>c)) ?_).mono ?_
    ·rintro b ⟨c|c,_⟩
     ·exact ai c.1
     ·exact aj (by omega)
    ·rintro e w2 ⟨rfl,P⟩;exact⟨rfl,h.step (ao _) B G s l q P⟩
   clear ih h D N l H r F;have Y:(0:Int)<=(k:Int):=by omega
   have Z:(k:Int)<(len:Int):=by omega
   have V:b<wr.heap.size:=by omega
   go_wp2_with fail;refine(x _ ((aq _ _).alloc (ao _) _)).mono ?_;rintro e w2 ⟨rfl,z⟩;obtain⟨⟨R,d1⟩,T,U⟩:=z.out.2;clear x t u;go_wp2_with fail;go_roundw
   case rel=>exact⟨k+1,by omega,by go_num,z.1⟩
   case measure=>simp[intOf];omega
  ·obtain rfl:k=len:=by omega
   have O:=au (h.done s (ao _) B m.2.1);clear h ih;go_wp2_with fail
   go_ret
   exact⟨_,rfl,O⟩
theorem KE{v:av}(f:w.ownsRow base e s v n xs)(h:CB c d tv mv w)(j:e≠206):v.ownBlock≠some c:=λe=>by
 rcases f.2 with⟨rfl,_⟩|⟨b,cap,k,rfl,_,i,_⟩
 ·simp[Value.ownBlock]at e
 ·simp[Value.ownBlock]at e;subst e;have a:w.heap[b]?=_:=h;rw[i]at a;injection a with a;injection a with a g;exact j g
theorem B9{v:av}(d:w.ownsRow base e s v n xs)(f:w.ownsMap Tryz.prog 3 (plainElem Tryz.prog 3) c L D):v.ownBlock≠some c:=λa=>by
 rcases d.2 with⟨rfl,_⟩|⟨g,cap,j,rfl,_,h,_⟩
 ·simp[Value.ownBlock]at a
 ·simp only[Value.ownBlock]at a;obtain rfl:=aA a;obtain⟨es,i,b,_⟩:=f;rw[h]at b;cases b
theorem vy{a:Nat}(f:w.ownsMap Tryz.prog 3 (plainElem Tryz.prog 3) c L D)(e:CB a d tv mv w):c≠a:=by
 rintro rfl;obtain⟨es,h,g,_⟩:=f;have b:w.heap[c]?=_:=e;rw[g]at b;cases b
theorem PQ(base d:Nat)(n:av)(S:List Wd×df)(M:aR)(ps:List Wd)(m pc:Nat)(pa:aw)(w:ag)(z:iK base d n S M w)(E:base<=w.heap.size)(C:S.1.length<=100000)(I:ps.length=m)(D:m<=1000)(u:∀w1,bZ M w w1->fm w1 ps pa):am 148 #[.pointer (some ⟨d,1,none⟩),ae pa m pc] w λe w'=>e=.returned (.agg #[ab 4,ab S.1.length])/\Hid (xd base d n (S.1++(0,(m:Int))::ps,S.2) M w w'):=by
 obtain⟨q,p,s,a,f,g,A,h,i,B⟩:=z;obtain⟨⟨R,v,T⟩,F⟩:=a.cells;obtain⟨j,l,K⟩:∃j l,q=ae j S.1.length l:=by
  rcases f.2 with⟨e,y⟩|⟨V,c,U,e,_⟩
  ·exact⟨none,0,by rw[e,y]⟩
  ·exact⟨_,c,e⟩
 subst I;refine(Ay base d 1 q j l S.1.length S.1 ps ps.length pc pa w K rfl rfl C D E v (F 1) a.lt (KE f a (by decide)) f ?_).mono ?_
 ·intro w1 k;refine u w1 (k.mono ?_);rintro b (rfl|e)
  ·exact h
  ·exact i b e
 ·rintro e w' ⟨rfl,r,t⟩;obtain⟨O,P,o,Q⟩:=t;refine⟨rfl,⟨r,p,s,(a.set1 r).kept P,?_,?_,A,ai h,?_,ai B⟩,o.mono ?_⟩
  ·have e:(S.1++(0,(ps.length:Int))::ps).length=S.1.length+1+ps.length:=by simp;omega
   rw[e];exact O
  ·have H:=g.lt;have L:=vy g a;have N:=B9 f g;obtain⟨es,x,G,J⟩:=g;refine⟨es,x,(o.block p H ?_).trans G,J⟩;rintro (e|e)
   ·exact L e
   ·exact N e
  ·intro b e;rcases Q b e with e|e
   ·exact ai (i b e)
   ·exact aj e
  ·rintro b (rfl|e)
   ·exact h
   ·exact i b e
theorem MI{h:Value}{M:Nat->Prop}{w:World}(m:iK base c h S M w)(p q:Nat)(A:p<=100000)(B:q<=100000)(z:S.2.length<=100000):∃a,w.cell? ⟨c,2,none⟩=some (.map (some a))/\∃w4,(Instr.mapUpdate 204 (.map (some a)) (.int .i64 p) (.int .i64 q)).run Tryz.prog w=.ok () w4/\iK base c h (S.1,(p,q)::S.2) M w4/\bZ (λb=>b=a) w w4/\M a/\a<w.heap.size/\w4.cell? ⟨c,2,none⟩=some (.map (some a)):=by
 obtain⟨x,a,y,e,i,f,o,r,s,j⟩:=m;obtain⟨w4,v,u,t⟩:=f.update Dw underlying204 (by unfold maxLen;omega) (keyOf_int_mk underlying3 (iF (n:=(p:Int)) (by omega))) (plainElem_int underlying3 (iF (n:=(q:Int)) (by omega)));have k:=Dz t;have g:bZ (λb=>b=a) w w4:=k.mono λb d=>(aA d).symm;refine⟨a,e.cells.1.2.2,w4,v,⟨x,a,_,e.kept (g.block c e.lt (λd=>vy f e d.symm)),ee i g ?_,u,Lp f o p q,r,s,j⟩,g,j,f.lt,(e.kept (g.block c e.lt (λd=>vy f e d.symm))).cells.1.2.2⟩;intro b d l;subst l;exact B9 i f d
theorem Df(w:World)(a b:Int):(Instr.field 109 (.agg #[.int .i64 a,.int .i64 b]) 1).run Tryz.prog w=.ok (.int .i64 b) w:=by kernel_rfl
theorem MG(base a:Nat)(H:Value)(S:List Wd×df)(M:Nat->Prop)(p q f L h n:Nat)(w:World)(u:World->Prop)(I:Hid (iK base a H S M w))(U:H=.slice (some ⟨f,0,none⟩) L h)(W:Hid (look S.2 p=none))(ax:p<=100000)(z:Hid (∀b,Below w.heap.size w b->w.heap.size+2<=b.heap.size->Calls Tryz.prog 178 #[.slice (some ⟨f,0,none⟩) L h,.int .i64 p] b λe w'=>w'=b/\∃o pc,e=.returned (.slice (some ⟨f,o,none⟩) n pc)/\ Hid (Calls Tryz.prog 114 #[.pointer (some ⟨a,0,none⟩),.slice (some ⟨f,o,none⟩) n pc] b λe w2=>∃g,e=.returned (.slice (some ⟨g,0,none⟩) n n)/\ Hid ((∀j,w2.cell? ⟨w.heap.size,j,none⟩=b.cell? ⟨w.heap.size,j,none⟩)/\w2.cell? ⟨a,0,none⟩=some (.slice (some ⟨f,0,none⟩) L h)/\ Calls Tryz.prog 148 #[.pointer (some ⟨a,1,none⟩),.slice (some ⟨g,0,none⟩) n n] w2 λe k=>e=.returned (.agg #[.int .i64 4,.int .i64 q])/\ Hid ((∀j,k.cell? ⟨w.heap.size,j,none⟩=b.cell? ⟨w.heap.size,j,none⟩)/\k.cell? ⟨a,0,none⟩=some (.slice (some ⟨f,0,none⟩) L h)/\ ∃d w4,k.cell? ⟨a,2,none⟩=some (.map (some d))/\(Instr.mapUpdate 204 (.map (some d)) (.int .i64 p) (.int .i64 q)).run Tryz.prog k.drew=.ok () w4/\(∀j,w4.cell? ⟨w.heap.size,j,none⟩=b.cell? ⟨w.heap.size,j,none⟩)/\w4.cell? ⟨a,2,none⟩=some (.map (some d))/\ (Av (w.heap.size+1) b->Av (w.heap.size+1) w4)/\∀v0 v1,u ((w4.setCell ⟨w.heap.size+1,0,none⟩ v0).setCell ⟨w.heap.size+1,1,none⟩ v1)))))):Calls Tryz.prog 151 #[.pointer (some ⟨a,0,none⟩),.agg #[.int .i64 4,.int .i64 p]] w λe w'=>e=.returned (.agg #[.int .i64 4,.int .i64 q])/\u w':=by
 subst U;go_enter func151,ntmps151;go_wp2_with fail;generalize t:(w.alloc (Obj.cells #[Value.int IntKind.i64 4,Value.int IntKind.i64 p] 109)).alloc (Obj.cells #[.int .i64 0,.int .i64 0] 109)=wA;have l:Hid (Below w.heap.size w wA.drew/\wA.drew.heap.size=w.heap.size+2):=by
  subst t;exact⟨(((aq _ _).alloc (ao _) _).alloc (by simp) _).drew,by simp[World.drew]⟩
 have G:wA.cell? ⟨w.heap.size,1,none⟩=some (.int .i64 p):=by subst t;simp[go_sem]
 have C:Hid (Av (w.heap.size+1) wA.drew):=by
  subst t;have:=aF (w.alloc (Obj.cells #[Value.int IntKind.i64 4,Value.int IntKind.i64 p] 109)) (Obj.cells #[.int .i64 0,.int .i64 0] 109);have es:∀o,(w.alloc o).heap.size=w.heap.size+1:=λo=>by simp
  rw[es]at this;exact this
 obtain⟨d,F,E,P,X⟩:∃d,∃F:Int,wA.cell? ⟨a,0,none⟩=some (.slice (some ⟨f,0,none⟩) L h)/\wA.cell? ⟨a,2,none⟩=some (.map (some d))/\(Instr.lookup 204 (.map (some d)) (.int .i64 p) true).run Tryz.prog wA.drew=.ok (.tuple #[.int .i64 F,.bool false]) wA.drew:=by
  obtain⟨ay,d,x,J,av,Q,R,_⟩:=I.out.later l.1;obtain⟨v,ps,K,Z⟩:=Q.look_ok Dw underlying204 (sf _) (plainElem_int underlying3 (iF (by omega))) (keyOf_int_mk underlying3 (iF (n:=(p:Int)) (by omega)));obtain⟨c,rfl,aw,_⟩:=plainElem_int_inv underlying3 Z;have V:Maps.has x (.int .i64 p)=false:=by
   cases hx:Maps.has x (.int .i64 p)
   ·rfl
   ·have:=(R p).1.1 hx;rw[W.out]at this;simp at this
  rw[V]at K;exact⟨d,c,J.cells.1.1,J.cells.1.2.2,K⟩
 clear t I;go_region_held3 (λw'=>w'.cell? ⟨w.heap.size,1,none⟩=some (.int .i64 p)/\w'.cell? ⟨a,2,none⟩=some (.map (some d))) (go_keep) (fail);have s:wA.drew.cell? ⟨w.heap.size,1,none⟩=some (.int .i64 p):=G;have O:wA.drew.cell? ⟨a,0,none⟩=some (.slice (some ⟨f,0,none⟩) L h):=E;clear X G E P;generalize wA.drew=b at*;have B:=au (z b.drew l.1.drew (by have:=l.2;show w.heap.size+2<=b.heap.size;omega));clear z;have T:=Df;go_wp2_with fail
 go_region_held3 (λw'=>w'.cell? ⟨w.heap.size,1,none⟩=some (.int .i64 p)/\w'.cell? ⟨a,0,none⟩=some (.slice (some ⟨f,0,none⟩) L h)) (go_keep) ((first
  | (go_at_call 178;refine B.mono ?_;rintro e w2 ⟨rfl,o,pc,rfl,y⟩;clear B)
  | (go_at_call 114;refine y.mono ?_;rintro e w2 ⟨g,rfl,m⟩;have ak:=(m.1 1).trans s;have al:=m.2.1;clear y)
  | (go_at_call 148;refine m.2.2.mono ?_;rintro e k ⟨rfl,r⟩;have y1:=(r.1 1).trans s;have y2:=r.2.1;clear m)))
 obtain⟨i,w4,aj,Y,D,an,A,N⟩:∃i w4,k.cell? ⟨a,2,none⟩=some (.map (some i))/\(Instr.mapUpdate 204 (.map (some i)) (.int .i64 p) (.int .i64 q)).run Tryz.prog k.drew=.ok () w4/\Hid (∀j,w4.cell? ⟨w.heap.size,j,none⟩=b.drew.cell? ⟨w.heap.size,j,none⟩)/\w4.cell? ⟨a,2,none⟩=some (.map (some i))/\Hid (Av (w.heap.size+1) w4)/\Hid (∀v0 v1,u ((w4.setCell ⟨w.heap.size+1,0,none⟩ v0).setCell ⟨w.heap.size+1,1,none⟩ v1)):=by
  obtain⟨i,w4,aa,ab,ad,ae,af,ag⟩:=r.out.2.2;exact⟨i,w4,aa,ab,ad,ae,af C,ag⟩
 have am:=(D 1).trans s;obtain⟨⟨ah,ai⟩,ap,ar⟩:=A.out.facts;clear r D A C l ak al y2 O s T;go_wp2_with fail;go_region_held3 (λw'=>w'.cell? ⟨w.heap.size,1,none⟩=some (.int .i64 p)/\w'.cell? ⟨a,2,none⟩=some (.map (some i))) (go_keep) (fail);clear Y aj y1 am an;go_wp2_with fail;exact az (v:=.agg #[.int .i64 4,.int .i64 q]) (by simp[results,results151,go_sem,ah,ai]) rfl ⟨rfl,N _ _⟩
def cD(ws:List Wd)(p n:Nat):List Wd:=(ws.drop (p+1)).take n
theorem DV{i:Nat}(a:i<n):(cD ws p n)[i]?=ws[p+1+i]? :=by
 unfold cD;rw[sX a,kP]
theorem lC(a:p+1+n<=ws.length):(cD ws p n).length=n:=by
 unfold cD;rw[dL,fj];omega
def gK(ws:List Wd)(nm:List ap)(n:Nat)(l:List Wd)(p:List (Tm n)):Prop:=l.length=p.length/\∀(i:Nat)(v:Wd)(y:Tm n),l[i]?=some v->p[i]?=some y->dN ws nm n y v
theorem uM(a:v.1≠4):jQ ws n v S=(v,S):=by
 cases n with
 | zero=>rfl
 | succ n=>simp[jQ,a]
theorem EY{q:Nat}(a:look S.2 p=some q):jQ ws (n+1) (4,(p:Int)) S=((4,(q:Int)),S):=by
 simp[jQ,a]
theorem zb(a:look S.2 p=none)(b:ws[p]?=some (0,(m:Int))):jQ ws (n+1) (4,(p:Int)) S= ((4,((gR (jQ ws n) (cD ws p m) S).2.1.length:Int)),(gR (jQ ws n) (cD ws p m) S).2.1++(0,(m:Int))::(gR (jQ ws n) (cD ws p m) S).1,(p,(gR (jQ ws n) (cD ws p m) S).2.1.length)::(gR (jQ ws n) (cD ws p m) S).2.2):=by
 simp[jQ,a,b,cD]
theorem oR{ws:List Wd}{nm:List ap}{n:Nat}(ih:∀(x:Tm n)(v:Wd)(S:List Wd×df),dN ws nm n x v->((jQ ws n v S).2.1.length:Int)<=S.1.length+sz n x/\(jQ ws n v S).2.2.length<=S.2.length+(aC n x).length):(l:List Wd)->(p:List (Tm n))->(S:List Wd×df)->gK ws nm n l p->((gR (jQ ws n) l S).2.1.length:Int)+p.length<=S.1.length+(p.map λy=>1+sz n y).sum/\(gR (jQ ws n) l S).2.2.length<=S.2.length+(p.flatMap λy=>aC n y).length
 | [],[],S,_=>by simp[gR]
 | [],_::_,_,h=>by have:=h.1;simp at this
 | _::_,[],_,h=>by have:=h.1;simp at this
 | v::l,y::p,S,h=>by
  obtain⟨e,f⟩:=ih y v S (h.2 0 v y rfl rfl);obtain⟨g,j⟩:=oR ih l p (jQ ws n v S).2 ⟨by have:=h.1;simpa using this,λi c d a b=>h.2 (i+1) c d (by simpa using a) (by simpa using b)⟩;simp only[gR,aU,bN,bK,bw,br];exact⟨by omega,by omega⟩
theorem jH{x:Tm (n+1)}(i:dN ws nm (n+1) x v)(j:x.1.1=4):∃p:Nat,v=(4,(p:Int))/\ws[p]?=some (0,(x.2.2.length:Int))/\p+1+x.2.2.length<=ws.length/\gK ws nm n (cD ws p x.2.2.length) x.2.2:=by
 obtain⟨p,d,e,a,f⟩:=i.2.1 j;refine⟨p,d,e,a,lC a,λk o l b c=>?_⟩;obtain⟨m,g,h⟩:=f k l c;rw[DV (aX.1 c).1,g]at b;obtain rfl:=aA b;exact h
theorem iW{x:Tm (n+1)}(a:dN ws nm (n+1) x v)(c:x.1.1≠4):v.1≠4:=by
 by_cases b:x.1.1=2
 ·obtain⟨d,rfl,_⟩:=a.1 b;simp
 ·rw[a.2.2 b c];exact c
theorem sA{ws:List Wd}{nm:List ap}:(n:Nat)->(x:Tm n)->(v:Wd)->(S:List Wd×df)->dN ws nm n x v->((jQ ws n v S).2.1.length:Int)<=S.1.length+sz n x/\(jQ ws n v S).2.2.length<=S.2.length+(aC n x).length
 | 0,_,_,_,h=>h.elim
 | n+1,x,v,S,h=>by
  have k:=(fh (n+1) x).1;by_cases c:x.1.1=4
  ·obtain⟨p,rfl,g,f,i⟩:=jH h c;cases hk:look S.2 p with
   | some q=>
    rw[EY hk];exact⟨by simp only;omega,by simp only;omega⟩
   | none=>
    rw[zb hk g];obtain⟨a,b⟩:=oR (λx v S d=>sA n x v S d) (cD ws p x.2.2.length) x.2.2 S i;have e:=qp (jQ ws n) (cD ws p x.2.2.length) S;rw[lC f]at e;have j:(aC (n+1) x).length=1+(x.2.2.flatMap λy=>aC n y).length:=by simp[aC];omega
    simp only[bw,br,e,sz,if_pos c,j];exact⟨by omega,by omega⟩
  ·rw[uM (iW h c)];exact⟨by simp only;omega,by simp only;omega⟩
def NP(ws:List Wd)(nm:List ap)(n:Nat):Prop:=∀(x:Tm n)(v:Wd)(base c d:Nat)(a:av)(S:List Wd×df)(M:aR)(w:ag),iK base c a S M w->w.ownsRow d 109 2 a ws.length (bk ws)->(∀b,a.ownBlock=some b->¬M b)->base<=w.heap.size->dN ws nm n x v->aI ⟨n,x⟩->ws.length<=100000->(S.1.length:Int)+sz n x<=90000->S.2.length+(aC n x).length<=90000->
 am 151 #[aH c,IS v] w λe w'=>e=.returned (IS (jQ ws n v S).1)/\Hid (xd base c a (jQ ws n v S).2 M w w')
theorem M2(n:Nat)(p:List (Tm n))(k:Nat)(x:Tm n)(d:p[k]?=some x):((p.take k).map λy=>1+sz n y).sum+(1+sz n x)<=(p.map λy=>1+sz n y).sum:=by
 obtain⟨c,rfl⟩:=aX.1 d;have a:p=p.take k++p[k]::p.drop (k+1):=by
  rw[<-eM c,gZ]
 have b:∀l:List (Tm n),0<=(l.map λy=>1+sz n y).sum:=by
  intro l
  induction l with
  | nil=>simp
  | cons y l ih=>
   have:=(fh n y).1;simp only[aU,bN];omega
 have e:=b (p.drop (k+1))
 conv=>rhs;rw[a]
 simp only[iD,List.sum_append,aU,bN];omega
theorem gK.take{ws:List Wd}{nm:List ap}{n:Nat}{l:List Wd}{p:List (Tm n)}(c:gK ws nm n l p)(k:Nat):gK ws nm n (l.take k) (p.take k):=by
 refine⟨by simp[c.1],λe f g a b=>?_⟩;rw[jp]at a b;split at a
 ·rename_i d;rw[if_pos d]at b;exact c.2 e f g a b
 ·cases a
theorem td(ws:List Wd)(nm:List ap)(n:Nat)(ih:NP ws nm n)(vs:List Wd)(p:List (Tm n))(base d l:Nat)(c:av)(S:List Wd×df)(M:aR)(a:aw)(pc:Nat)(w:ag)(u:iK base d c S M w)(r:w.ownsRow l 109 2 c ws.length (bk ws))(m:∀b,c.ownBlock=some b->¬M b)(I:base<=w.heap.size)(j:gK ws nm n vs p)(E:∀y∈p,aI ⟨n,y⟩)(F:ws.length<=100000)(C:vs.length<=100000)(L:(S.1.length:Int)+(p.map λy=>1+sz n y).sum<=90000)(J:S.2.length+(p.flatMap λy=>aC n y).length<=90000)(A:eW w vs a)(D:∀b o,a=some ⟨b,o,none⟩->¬M b):am 114 #[aH d,ae a vs.length pc] w λe w'=>∃g,e=.returned (ae (some ⟨g,0,none⟩) vs.length vs.length)/\Hid (CU (jQ ws n) vs base d c S M g w w'):=by
 refine yZ (jQ ws n) vs base d c S M a vs.length pc w rfl C u A D ?_;intro k i s t G x q v;have B:=(aX.1 s).1;obtain⟨y,h⟩:∃y,p[k]?=some y:=⟨p[k]'(by rw[<-j.1];exact B),aM _⟩;obtain⟨P,Q⟩:=oR (λH i S z=>sA n H i S z) (vs.take k) (p.take k) S (j.take k);have N:=M2 n p k y h;have O:=Bp n p k y h;have K:=q.size;refine ih y i base d l c _ t G x (ee r q λb e=>m b e) ?_ (by omega) (j.2 k i y s h) (E y (aN h)) F (by omega) (by omega);intro b e f;rcases v b f with f|f
 ·exact m b e f
 ·have:=(r.lt b e).2;omega
theorem uJ(a:iK base c d S M w)(b:ak w w'):xd base c d S M w w':=
 ⟨(a.later b).mono λ_ a=>ai a.1,bm b M⟩
theorem MJ(ws:List Wd)(nm:List ap)(n:Nat)(ih:NP ws nm n)(ps:List (Tm n))(p:Nat)(base i t:Nat)(l:av)(S:List Wd×df)(M:aR)(w:ag)(c:iK base i l S M w)(F:w.ownsRow t 109 2 l ws.length (bk ws))(P:∀b,l.ownBlock=some b->¬M b)(aX:base<=w.heap.size)(aF:ws[p]?=some (0,(ps.length:Int)))(R:p+1+ps.length<=ws.length)(U:gK ws nm n (cD ws p ps.length) ps)(aG:∀y∈ps,aI ⟨n,y⟩)(aV:ps.length<=8)(V:ws.length<=100000)(aK:(S.1.length:Int)+(ps.map λy=>1+sz n y).sum<=90000)(aE:S.2.length+(ps.flatMap λy=>aC n y).length<=90000)(aB:look S.2 p=none):am 151 #[aH i,IS (4,(p:Int))] w λe w'=>e=.returned (IS (4,((gR (jQ ws n) (cD ws p ps.length) S).2.1.length:Int)))/\ Hid (xd base i l ((gR (jQ ws n) (cD ws p ps.length) S).2.1++(0,(ps.length:Int))::(gR (jQ ws n) (cD ws p ps.length) S).1,(p,(gR (jQ ws n) (cD ws p ps.length) S).2.1.length)::(gR (jQ ws n) (cD ws p ps.length) S).2.2) M w w'):=by
 obtain⟨d,u,Q,_,_⟩:=F.form (by omega);have E:=lC R;obtain⟨a3,a4⟩:=oR (λaQ aN S aw=>sA n aQ aN S aw) (cD ws p ps.length) ps S U;refine MG base i l S M p _ d ws.length u ps.length w _ c Q aB (by omega) ?_;intro Y j aW;subst Q;have aY:=(F.lt d rfl).2;have T:Y.ownsRow t 109 2 (ae (some ⟨d,0,none⟩) ws.length u) ws.length (bk ws):=dY F j;refine(xN t d ws.length u p ps.length ws Y V T aF R).mono ?_;rintro e w' ⟨rfl,pa,pc,rfl,_,aJ,o,rfl⟩;refine⟨rfl,o,pc,rfl,?_⟩;have ax:eW w' (cD ws p ps.length) (some ⟨d,o,none⟩):=CK aJ (by have:=j.size;omega);have O:=td ws nm n ih (cD ws p ps.length) ps base i t (ae (some ⟨d,0,none⟩) ws.length u) S _ (some ⟨d,o,none⟩) pc w' (c.later j) T (λb e a=>P b e a.1) (by have:=j.size;omega) U aG V (by omega) aK aE ax (λb a2 e a=>P b (by injection e with e;injection e with e;subst e;rfl) a.1);rw[E]at O;refine O.mono ?_;rintro e aP ⟨g,rfl,ab⟩;obtain⟨A,G,s,ad,af,aS,H⟩:=ab;rw[E]at H;have v:∀b,A b->(M b/\b<w.heap.size)\/w'.heap.size<=b:=ad;have aZ:=s.size;refine⟨g,rfl,λm=>bD (s.block _ (by omega) (λa=>by omega)) m,?_,?_⟩
 ·obtain⟨aM,x,Z,q,_⟩:=G;exact q.cells.1.1
 refine(PQ base i _ _ A (gR (jQ ws n) (cD ws p ps.length) S).1 ps.length ps.length (some ⟨g,0,none⟩) aP G (by have:=j.size;omega) (by omega) (by rw[qp];exact E) (by omega) ?_).mono ?_
 ·intro a5 az;exact aj ⟨_,rfl,(ee H az (λb e=>by simp only[Value.ownBlock]at e;obtain rfl:=aA e;exact af)).cells (g:=g) rfl⟩
 rintro e r ⟨rfl,aa⟩;obtain⟨I,B⟩:=aa;have a0:=B.size;have D:∀b,w.heap.size<=b->b<w.heap.size+2->¬A b:=λb f h a=>by
  rcases v b a with k|k<;>omega
 have L:∀b,w.heap.size<=b->b<w.heap.size+2->r.heap[b]?=w'.heap[b]? :=λb f h=>(B.block b (by omega) (D b f h)).trans (s.block b (by omega) (λa=>by omega));refine⟨rfl,λm=>bD (L _ (ao _) (by omega)) m,?_,?_⟩
 ·obtain⟨aM,x,Z,q,_⟩:=I;exact q.cells.1.1
 have bd:ak r r.drew:=(aq _ _).drew;have ah:=I.kept (bm bd (λ_=>False)) (λ_ _ _ c=>c);obtain⟨x,al,z,an,ar,C,J,aT,au⟩:=MI ah p (gR (jQ ws n) (cD ws p ps.length) S).2.1.length (by omega) (by omega) (by simp only;omega);have aD:∀b,w.heap.size<=b->b<w.heap.size+2->b≠x:=λb f h e=>by
  subst e;rcases J with k|k
  ·exact D _ f h k
  ·omega
 have a1:=C.size;have aU:r.drew.heap.size=r.heap.size:=rfl;have N:∀b,w.heap.size<=b->b<w.heap.size+2->z.heap[b]?=w'.heap[b]? :=λb f h=>(C.block b (by omega) (aD b f h)).trans (L b f h);refine⟨x,z,al,an,λm=>bD (N _ (ao _) (by omega)) m,au,λay=>(N _ (by omega) (by omega)).trans ay,λX aO=>?_⟩;have q:=bz z (w.heap.size+1) 0 X;have aL:=bz (z.setCell ⟨w.heap.size+1,0,none⟩ X) (w.heap.size+1) 1 aO;have W:=q.trans aL (λb _ c=>c);refine⟨(ar.kept W ?_).mono ?_,?_⟩
 ·rintro b (a|a) _ rfl
  ·exact D _ (by omega) (by omega) a
  ·omega
 ·rintro b (a|a)
  ·rcases v b a with k|k
   ·exact ai k.1
   ·exact aj (by omega)
  ·exact aj (by omega)
 ·refine(((((bm j M).trans s ?_).trans B ?_).trans (bm bd (λ_=>False)) ?_).trans C ?_).trans W ?_
  ·exact λb _ a=>a.1
  ·intro b K a;rcases v b a with k|k
   ·exact k.1
   ·omega
  ·exact λ_ _ c=>c.elim
  ·rintro b K rfl;rcases J with k|k
   ·rcases v _ k with k|k
    ·exact k.1
    ·omega
   ·omega
  ·intro b K c;omega
theorem MF(ws:List Wd)(nm:List ap)(n:Nat):NP ws nm n:=by
 induction n with
 | zero=>intro a o i d p j c h g _ _ _ _ f;exact f.elim
 | succ n ih=>
  intro a o i d p j c h g e z v u f s B G F;have w:=s (bI n a) (by simp[aC,bI]);have y:a.2.2.length<=8:=mB (bI n a) w;have H:(aC (n+1) a).length=1+(a.2.2.flatMap λb=>aC n b).length:=by simp[aC];omega
  by_cases k:a.1.1=4
  ·obtain⟨m,rfl,r,x,A⟩:=jH f k;cases hk:look c.2 m with
   | some D=>
    rw[EY hk];refine(MH i d j c h m D g e hk (by omega)).mono ?_;rintro q E ⟨rfl,l⟩;exact⟨rfl,uJ e l⟩
   | none=>
    rw[zb hk r];have q:sz (n+1) a=1+(a.2.2.map λb=>1+sz n b).sum:=by simp only[sz,if_pos k]
    exact MJ ws nm n ih a.2.2 m i d p j c h g e z v u r x A (λb C=>bf n a b s C) y B (by omega) (by omega) hk
  ·have t:=iW f k;rw[uM t];refine(Kn d o.1 o.2 g t).mono ?_;rintro q E ⟨rfl,l⟩;exact⟨rfl,uJ e l⟩
theorem L8(w:ag)(a:av):iK w.heap.size (w.heap.size+1) a ([],[]) (λb=>w.heap.size<=b) ((w.alloc (.map #[] 0)).alloc (.cells #[a,ae none 0 0,.map (some w.heap.size)] 206)):=by
 have e:=pG w Tryz.prog 3 (plainElem (H:=Unit) Tryz.prog 3);have es:∀o,(w.alloc o).heap.size=w.heap.size+1:=λo=>by simp
 have c:=aF (w.alloc (.map #[] 0)) (.cells #[a,ae none 0 0,.map (some w.heap.size)] 206);rw[es]at c;exact⟨ae none 0 0,w.heap.size,.map [],c,eP _ _ _ _,e.alloc _,Lo,by omega,λb d=>by simp[Value.ownBlock]at d,ao _⟩
def ld(R:List Wd×List Wd×df)(len g:Nat)(tv:av)(w w':ag):Prop:=
 ak w w'/\w'.ownsRow w.heap.size 109 2 tv R.2.1.length (bk R.2.1)/\w'.ownsRow g 109 2 (ae (some ⟨g,0,none⟩) len len) len (bk R.1)/\w.heap.size<=g/\tv.ownBlock≠some g
theorem zN(R:List Wd×List Wd×df)(c:av)(d:aw)(L f:Nat)(a:aw)(len pc:Nat)(w:ag)(i:c=ae d L f)(b:Hid (am 114 #[.pointer (some ⟨w.heap.size+1,0,none⟩),ae a len pc] ((w.alloc (.map #[] 0)).alloc (.cells #[ae d L f,ae none 0 0,.map (some w.heap.size)] 206)) λe w'=>∃g tv,e=.returned (ae (some ⟨g,0,none⟩) len len)/\w'.cell? ⟨w.heap.size+1,1,none⟩=some tv/\Hid (ld R len g tv w w'))):am 75 #[c,ae a len pc] w λe w'=>∃g tv,e=.returned (.tuple #[tv,ae (some ⟨g,0,none⟩) len len])/\Hid (ld R len g tv w w'):=by
 subst i;have j:= @run_makeMap Tryz.prog;go_enter func75,ntmps75;go_wp2_with fail;refine b.mono ?_;rintro e l ⟨g,tv,rfl,k,h⟩;clear b j;go_wp2_with fail;exact az (v:=.tuple #[tv,ae (some ⟨g,0,none⟩) len len]) (by simp[results,results75,go_sem]) rfl ⟨g,tv,rfl,h⟩
theorem B4(ws:List Wd)(nm:List ap)(n:Nat)(vs:List Wd)(p:List (Tm n))(q:Nat)(d:av)(a:aw)(pc:Nat)(w:ag)(k:w.ownsRow q 109 2 d ws.length (bk ws))(G:gK ws nm n vs p)(F:∀y∈p,aI ⟨n,y⟩)(H:ws.length<=100000)(B:vs.length<=100000)(I:(p.map λy=>1+sz n y).sum<=90000)(D:(p.flatMap λy=>aC n y).length<=90000)(h:eW w vs a)(E:∀b o,a=some ⟨b,o,none⟩->b<w.heap.size):am 75 #[d,ae a vs.length pc] w λe w'=>∃g tv,e=.returned (.tuple #[tv,ae (some ⟨g,0,none⟩) vs.length vs.length])/\Hid (ld (gR (jQ ws n) vs ([],[])) vs.length g tv w w'):=by
 obtain⟨l,m,r⟩:∃l m,d=ae l ws.length m:=by
  rcases k.2 with⟨e,x⟩|⟨g,c,R,e,_⟩
  ·exact⟨none,0,by rw[e,x]⟩
  ·exact⟨_,c,e⟩
 refine zN _ d l ws.length m a vs.length pc w r ?_;have f:ak w ((w.alloc (.map #[] 0)).alloc (.cells #[d,ae none 0 0,.map (some w.heap.size)] 206)):=((aq _ _).alloc (ao _) _).alloc (by simp) _;have z:=L8 w d;have S:((w.alloc (.map #[] 0)).alloc (.cells #[d,ae none 0 0,.map (some w.heap.size)] 206)).heap.size=w.heap.size+2:=by simp
 rw[<-r];generalize (w.alloc (.map #[] 0)).alloc (.cells #[d,ae none 0 0,.map (some w.heap.size)] 206)=wA at*;have A:eW wA vs a:=by
  rcases h with h|⟨b,o,e,j,h⟩
  ·exact ai h
  ·exact aj ⟨b,o,e,by omega,λt u s=>⟨(ax f b _ j).trans (h t u s).1,(ax f b _ j).trans (h t u s).2⟩⟩
 refine(td ws nm n (MF ws nm n) vs p w.heap.size (w.heap.size+1) q d ([],[]) _ a pc wA z (dY k f) (λb e C=>by have:=(k.lt b e).2;omega) (by omega) G F H B (by simpa using I) (by simpa using D) A ?_).mono ?_
 ·intro b o e C;have:=E b o e;omega
 ·rintro e w' ⟨g,rfl,v⟩;obtain⟨Q,M,i,X,N,Y,O⟩:=v;obtain⟨tv,Z,P,J,K,T,U,V,L,W⟩:=M;refine⟨g,tv,rfl,J.cells.1.2.1,⟨?_,?_,?_,?_,?_⟩,K,O,by omega,λe=>N (L g e)⟩
  ·exact i.os.trans f.os
  ·exact i.tape.trans f.tape
  ·exact i.output.trans f.output
  ·have:=i.size;omega
  ·intro b j;exact(i.block b (by omega) (by omega)).trans (f.block b j)
theorem AT(n:dM base j room ws nm M w)(h:ak w w1)(r:ld R len g tv w1 w2)(z:base<=w.heap.size):mh base j room R.2.1 nm M w (w2.setCell ⟨j.b,j.o+1,none⟩ tv):=by
 obtain⟨v,l,A,B,C⟩:=r;have s:=h.size;have i:=h.trans (v.mono s);obtain⟨D,t,u,d,x,e,f,y,p,q⟩:=n.later i;have k:=bz w2 j.b (j.o+1) tv;have m:∀b,tv.ownBlock=some b->w1.heap.size<=b:=λb a=>(l.lt b a).1;refine⟨⟨tv,t,u,d.set1 tv,ee (rO l (by omega)) k (λb a c=>?_),e.kept k (λb a c=>?_) (λb a c=>?_),ai f.1,λb a=>aj (by have:=m b a;omega),λb a=>ai (p b a).1,λb a=>ai (q b a).1⟩,(bm i M).trans k ?_⟩
 ·subst c;have:=m _ a;have:=f.2;omega
 ·subst c;exact nH e.1 d (by decide) a
 ·subst c;exact uf e d a
 ·rintro b _ rfl;exact f.1
theorem yX(R:List Wd×List Wd×df)(d:cG)(p:aw)(L r:Nat)(a:aw)(len pc:Nat)(w:ag)(k:d.b<w.heap.size)(i:w.cell? ⟨d.b,d.o+1,none⟩=some (ae p L r))(j:w.frozen? ⟨d.b,d.o+1,none⟩=false)(l:Hid (am 74 #[.pointer (some ⟨d.b,d.o,none⟩),ae a len pc] w λe w'=>e=.returned (.bool true)/\ak w w'))(m:Hid (∀w1,ak w w1->am 75 #[ae p L r,ae a len pc] w1 λe w'=>∃g tv,e=.returned (.tuple #[tv,ae (some ⟨g,0,none⟩) len len])/\Hid (ld R len g tv w1 w'))):am 44 #[.pointer (some ⟨d.b,d.o,none⟩),ae a len pc] w λe w'=>∃g tv w1 w2,e=.returned (.tuple #[ae (some ⟨g,0,none⟩) len len,ab 0])/\w'=w2.setCell ⟨d.b,d.o+1,none⟩ tv/\Hid (ak w w1/\ld R len g tv w1 w2):=by
 go_enter func44,ntmps44;go_wp2_with fail;refine l.mono ?_;rintro e w1 ⟨rfl,f⟩;have HB:=au f;replace i:=(ax f d.b (d.o+1) k).trans i;replace j:=(gM f d.b (d.o+1) k).trans j;have n:d.b<w1.heap.size:=aW k f.size;clear f l;go_wp2_with fail;refine(m w1 HB).mono ?_;rintro e w2 ⟨g,tv,rfl,h⟩;obtain⟨q,s,rfl⟩:∃q s,tv=ae q R.2.1.length s:=by
  rcases h.out.2.1.2 with⟨e,t⟩|⟨g,c,u,e,_⟩
  ·exact⟨none,0,by rw[e,t]⟩
  ·exact⟨_,c,e⟩
 replace i:=(ax h.1 d.b (d.o+1) n).trans i;replace j:=(gM h.1 d.b (d.o+1) n).trans j;clear m;go_wp2_with fail
 go_ret2
 exact⟨g,_,w1,w2,rfl,rfl,HB,h⟩
theorem gK.mem{l:List Wd}{p:List (Tm n)}(b:gK ws nm n l p)(e:v∈l):∃y∈p,dN ws nm n y v:=by
 obtain⟨a,c⟩:=dd e;have d:a<p.length:=by rw[<-b.1];exact(aX.1 c).1
 exact⟨p[a],jM _,b.2 a v p[a] c (aM d)⟩
def FP(g c:df)(a b:Nat):Prop:=∀p,(p<a\/b<=p)->look c p=look g p
theorem Hg{a C:List Wd}{c:Wd}(k:(a++c::C) <+:b):cD b a.length C.length=C:=by
 obtain⟨d,rfl⟩:=k;unfold cD;rw[show a++c::C++d=(a++ [c])++(C++d) by simp];rw[List.drop_left' (by simp),List.take_left' rfl]
theorem CL(c:eW w vs a)(d:ak w w1):eW w1 vs a:=by
 rcases c with c|⟨b,o,i,e,c⟩
 ·exact ai c
 ·exact aj ⟨b,o,i,aW e d.size,λg h f=>⟨(ax d b _ e).trans (c g h f).1,(ax d b _ e).trans (c g h f).2⟩⟩
def EM(ws:List Wd)(nm:List ap)(n:Nat)(vs:List Wd)(p:List (Tm n)):Prop:=
 gK ws nm n vs p/\(∀a∈p,aI ⟨n,a⟩)/\(∀a∈p,aS n a=true)/\(p.map λa=>1+sz n a).sum<=90000/\(p.flatMap λa=>aC n a).length<=90000/\vs.length<=1000
def jU(ws:List Wd)(n:Nat)(vs:List Wd):List Wd×List Wd×df:=gR (jQ ws n) vs ([],[])
theorem EM.all{ws:List Wd}{nm:List ap}{n:Nat}{vs:List Wd}{p:List (Tm n)}(b:EM ws nm n vs p)(g:ws.length<=1000)(f:nm.length<=50000):vs.all (cT ws nm)=true/\∀v∈vs,dC v.2:=by
 have key:∀v∈vs,cT ws nm v=true/\dC v.2:=λv a=>by
  obtain⟨d,c,e⟩:=b.1.mem a;exact Cp e (b.2.1 d c) (b.2.2.1 d c) (by omega) (by omega)
 exact⟨cu.2 λv a=>(key v a).1,λv a=>(key v a).2⟩
def yB(base:Nat)(a:cG)(room:Int)(R:List Wd×List Wd×df)(nm:List ap)(M:aR)(g:Nat)(w w':ag):Prop:=
 dM base a room R.2.1 nm (λb=>(M b\/w.heap.size<=b)/\b≠g) w'/\bZ M w w'/\eW w' R.1 (some ⟨g,0,none⟩)/\w.heap.size<=g/\g<w'.heap.size/\∃len,w'.ownsRow g 109 2 (ae (some ⟨g,0,none⟩) len len) len (bk R.1)
theorem yz(a:w.ownsRow base 109 2 (ae (some ⟨g,0,none⟩) len len) len (bk vs)):eW w vs (some ⟨g,0,none⟩)/\g<w.heap.size:=by
 refine⟨aj ⟨g,0,rfl,(a.lt g rfl).2,λc d b=>?_⟩,(a.lt g rfl).2⟩;have:=jk a c d b;rw[de];exact this
theorem Jl(i:dM base j room ws nm M w)(f:ak w w1)(p:ld R len g tv w1 w2)(t:base<=w.heap.size):yB base j room R nm M g w (w2.setCell ⟨j.b,j.o+1,none⟩ tv):=by
 have u:=AT i f p t;obtain⟨z,q,h,F,B⟩:=p;have v:=f.size;have s:=f.trans (z.mono v);obtain⟨G,x,y,d,C,e,l,D,m,n⟩:=i.later s;have k:=bz w2 j.b (j.o+1) tv;have r:∀b,tv.ownBlock=some b->w1.heap.size<=b:=λb a=>(q.lt b a).1;have E:j.b<w.heap.size:=l.2;refine⟨⟨tv,x,y,d.set1 tv,ee (rO q (by omega)) k (λb a c=>?_),e.kept k (λb a c=>?_) (λb a c=>?_),⟨ai l.1,by omega⟩,λb a=>⟨aj (by have:=r b a;omega),λc=>B (by rw[a,c])⟩,λb a=>⟨ai (m b a).1,by have:=(m b a).2;omega⟩,λb a=>⟨ai (n b a).1,by have:=(n b a).2;omega⟩⟩,u.2,?_,by omega,?_,?_⟩
 ·subst c;have:=r _ a;omega
 ·subst c;exact nH e.1 d (by decide) a
 ·subst c;exact uf e d a
 ·have A:=ee h k (λb a c=>by
    subst c;simp only[Value.ownBlock]at a;have:=aA a
    omega)
  exact(yz A).1
 ·have:=(yz h).2;simpa [World.setCell]using this
 ·exact⟨len,ee h k (λb a c=>by
    subst c;simp only[Value.ownBlock]at a;have:=aA a
    omega)⟩
theorem zm(n:Nat)(p:List (Tm n))(vs:List Wd)(a:aw)(pc base:Nat)(f:cG)(room:Int)(ws:List Wd)(nm:List ap)(M:aR)(w:ag)(j:dM base f room ws nm M w)(d:EM ws nm n vs p)(r:eW w vs a)(C:∀b o,a=some ⟨b,o,none⟩->b<w.heap.size)(z:base<=w.heap.size)(E:ws.length<=1000)(D:nm.length<=50000):am 44 #[.pointer (some ⟨f.b,f.o,none⟩),ae a vs.length pc] w λe w'=>∃g,e=.returned (.tuple #[ae (some ⟨g,0,none⟩) vs.length vs.length,ab 0])/\Hid (yB base f room (jU ws n vs) nm M g w w'):=by
 obtain⟨y,B⟩:=d.all E D;obtain⟨t,P,Q,m,q,J,K,L,N,O⟩:=id j;obtain⟨⟨F,v,G,H⟩,A⟩:=m.cells;obtain⟨h,i,rfl⟩:∃h i,t=ae h ws.length i:=by
  rcases q.2 with⟨e,x⟩|⟨g,c,I,e,_⟩
  ·exact⟨none,0,by rw[e,x]⟩
  ·exact⟨_,c,e⟩
 refine(yX (jU ws n vs) f h ws.length i a vs.length pc w m.lt v (A _) ?_ ?_).mono ?_
 ·have s:=yK base f room ws nm M vs a vs.length pc w j (by omega) rfl (by have:=d.2.2.2.2.2;omega) r B;rw[y]at s;exact s
 ·intro u k;refine B4 ws nm n vs p base (ae h ws.length i) a pc u (dY q k) d.1 d.2.1 (by omega) (by have:=d.2.2.2.2.2;omega) d.2.2.2.1 d.2.2.2.2.1 (CL r k) ?_;intro b o e;exact aW (C b o e) k.size
 ·rintro e w' ⟨g,t,u,R,rfl,rfl,l⟩;exact⟨g,rfl,Jl j l.1 l.2 z⟩
def pd(ws:List Wd):Nat->Wd->List Nat
 | 0,_=> []
 | n+1,v=>if v.1=4 then
    match ws[v.2.toNat]? with
    | some a=>v.2.toNat::(cD ws v.2.toNat a.2.toNat).flatMap (pd ws n)
    | none=> []
  else []
theorem mJ(a:v.1≠4):pd ws n v=[]:=by
 cases n with
 | zero=>rfl
 | succ n=>simp[pd,a]
theorem rQ(a:ws[p]?=some (0,(m:Int))):pd ws (n+1) (4,(p:Int))=p::(cD ws p m).flatMap (pd ws n):=by
 simp[pd,a]
theorem xI{s:ap}(a:s∈nm):eT nm s=nm:=by
 unfold eT;rw[if_pos ((zy nm s).2 a)]
theorem AU(ih:∀(x:Tm n)(v:Wd)(S:List Wd×df),dN ws nm n x v->(pd ws n v).Nodup->(∀p∈pd ws n v,look S.2 p=none)->((jQ ws n v S).1=(bi n x S.1 nm).1/\(jQ ws n v S).2.1=(bi n x S.1 nm).2.1/\(bi n x S.1 nm).2.2=nm)/\∀p,look (jQ ws n v S).2.2 p=none ↔ look S.2 p=none/\p∉pd ws n v):(us:List Wd)->(ys:List (Tm n))->gK ws nm n us ys->(S:List Wd×df)->(us.flatMap (pd ws n)).Nodup->(∀p∈us.flatMap (pd ws n),look S.2 p=none)-> ((gR (jQ ws n) us S).1=(bQ (bi n) ys S.1 nm).1/\(gR (jQ ws n) us S).2.1=(bQ (bi n) ys S.1 nm).2.1/\(bQ (bi n) ys S.1 nm).2.2=nm)/\∀p,look (gR (jQ ws n) us S).2.2 p=none ↔ look S.2 p=none/\p∉us.flatMap (pd ws n)
 | us,ys,a,S,hn,hl=>by
  induction us generalizing ys S with
  | nil=>
   obtain rfl:ys=[]:=by have:=a.1;cases ys with|nil=>rfl|cons e l=>simp at this
   simp[gR,bQ]
  | cons v us z=>
   cases ys with
   | nil=>have:=a.1;simp at this
   | cons d ys=>
    have r:dN ws nm n d v:=a.2 0 v d (by simp) (by simp);have w:gK ws nm n us ys:=⟨by have:=a.1;simpa using this,λy e b s t=>a.2 (y+1) e b (by simpa using s) (by simpa using t)⟩;rw[bK]at hn hl;obtain⟨A,B,C⟩:=fz.1 hn;obtain⟨⟨g,h,i⟩,f⟩:=ih d v S r A (λp c=>hl p (List.mem_append_left _ c));have u:∀p∈us.flatMap (pd ws n),look (jQ ws n v S).2.2 p=none:=λp c=>(f p).2 ⟨hl p (List.mem_append_right _ c),λq=>C p q p c rfl⟩;obtain⟨⟨j,k,m⟩,o⟩:=z ys w (jQ ws n v S).2 B u;simp only[gR,bQ];rw[i,<-h];refine⟨⟨by rw[g,j],k,m⟩,λp=>?_⟩;rw[o p,f p,bK,dr,not_or,and_assoc]
theorem EZ{ws:List Wd}{nm:List ap}(g:nm.Nodup):(n:Nat)->(x:Tm n)->(v:Wd)->(S:List Wd×df)->dN ws nm n x v->(pd ws n v).Nodup->(∀p∈pd ws n v,look S.2 p=none)-> ((jQ ws n v S).1=(bi n x S.1 nm).1/\(jQ ws n v S).2.1=(bi n x S.1 nm).2.1/\(bi n x S.1 nm).2.2=nm)/\∀p,look (jQ ws n v S).2.2 p=none ↔ look S.2 p=none/\p∉pd ws n v
 | 0,_,_,_,h,_,_=>h.elim
 | n+1,x,v,S,h,hn,hl=>by
  by_cases b:x.1.1=4
  ·obtain⟨p,rfl,i,u,s⟩:=jH h b;rw[rQ i]at hn hl ⊢;have o:=hl p (by simp);rw[zb o i];have r:=mZ.1 hn;obtain⟨⟨k,f,l⟩,m⟩:=AU (λx v S=>EZ g n x v S) (cD ws p x.2.2.length) x.2.2 s S r.2 (λq c=>hl q (bR _ c));have e:bi (n+1) x S.1 nm=((4,((bQ (bi n) x.2.2 S.1 nm).2.1.length:Int)),(bQ (bi n) x.2.2 S.1 nm).2.1++(0,(x.2.2.length:Int))::(bQ (bi n) x.2.2 S.1 nm).1,(bQ (bi n) x.2.2 S.1 nm).2.2):=by
    simp only[bi];rw[if_neg (by omega),if_pos b]
   rw[e];refine⟨⟨by rw[f],by rw[k,f],l⟩,λq=>?_⟩;by_cases c:q=p
   ·subst c;rw[sG];simp
   ·rw[qw _ _ c,m q];simp[c]
  ·have j:=iW h b;rw[uM j,mJ j];refine⟨⟨?_,?_,?_⟩,λq=>by simp⟩
   ·simp only[bi];by_cases a:x.1.1=2
    ·rw[if_pos a];obtain⟨t,rfl,d⟩:=h.1 a;rw[xI (aN d),BE g d]
    ·rw[if_neg a,if_neg b];exact h.2.2 a b
   ·simp only[bi];split
    ·rfl
    ·rfl
   ·simp only[bi];split
    ·rename_i a;obtain⟨t,rfl,d⟩:=h.1 a;exact xI (aN d)
    ·rfl
theorem DW(a:ws <+:b)(c:p+1+m<=ws.length):cD b p m=cD ws p m:=by
 obtain⟨t,rfl⟩:=a;unfold cD;rw[pw (by omega),g8 (by rw[fj];omega)]
theorem MQ(c:ws <+:b)(a:ws[p]?=some v):b[p]?=some v:=by
 obtain⟨t,rfl⟩:=c;rw[dx (aX.1 a).1];exact a
theorem nA{c β:Type}{f g:c->List β}:{l:List c}->(∀a∈l,f a=g a)->l.flatMap f=l.flatMap g
 | [],_=>rfl
 | a::l,h=>by rw[bK,bK,h a (by simp),nA (l:=l) λb d=>h b (by simp[d])]
theorem rP{ws d:List Wd}{nm:List ap}(b:ws <+:d):(n:Nat)->(x:Tm n)->(v:Wd)->dN ws nm n x v->pd d n v=pd ws n v
 | 0,_,_,h=>h.elim
 | n+1,x,v,h=>by
  by_cases a:x.1.1=4
  ·obtain⟨p,rfl,c,e,f⟩:=jH h a;rw[rQ c,rQ (MQ b c),DW b e];congr 1;refine nA λu g=>?_;obtain⟨y,_,i⟩:=f.mem g;exact rP b n y u i
  ·rw[mJ (iW h a),mJ (iW h a)]
theorem zF{ws:List Wd}{nm:List ap}:(n:Nat)->(x:Tm n)->(v:Wd)->dN ws nm n x v->∀p∈pd ws n v,p<ws.length
 | 0,_,_,h,_,_=>h.elim
 | n+1,x,v,h,q,a=>by
  by_cases b:x.1.1=4
  ·obtain⟨p,rfl,c,g,d⟩:=jH h b;rw[rQ c,cv,jN]at a;rcases a with rfl|⟨u,e,a⟩
   ·omega
   ·obtain⟨y,_,f⟩:=d.mem e;exact zF n y u f q a
  ·rw[mJ (iW h b)]at a;cases a
theorem vk{n:Nat}(ih:∀(x:Tm n)(ws:List Wd)(nm:List ap),aI ⟨n,x⟩->(pd (bi n x ws nm).2.1 n (bi n x ws nm).1).Nodup/\∀p∈pd (bi n x ws nm).2.1 n (bi n x ws nm).1,ws.length<=p):(l:List (Tm n))->(ws:List Wd)->(nm:List ap)->(∀y∈l,aI ⟨n,y⟩)->((bQ (bi n) l ws nm).1.flatMap (pd (bQ (bi n) l ws nm).2.1 n)).Nodup/\∀p∈(bQ (bi n) l ws nm).1.flatMap (pd (bQ (bi n) l ws nm).2.1 n),ws.length<=p
 | [],_,_,_=>by simp[bQ]
 | y::l,ws,nm,hr=>by
  have f:=ih y ws nm (hr y (by simp));have g:=gS n y ws nm (hr y (by simp));have d:=vk ih l (bi n y ws nm).2.1 (bi n y ws nm).2.2 (λo m=>hr o (by simp[m]));have c:=(rD (λx ws nm=>mC n x ws nm) l (bi n y ws nm).2.1 (bi n y ws nm).2.2).1;have k:=rP c n y _ g;have j:=zF n y _ g;have q:=(mC n y ws nm).1.length_le;simp only[bQ,bK];rw[k];refine⟨fz.2 ⟨f.1,d.1,λa h b i e=>?_⟩,λp c=>?_⟩
  ·have:=j a h;have:=d.2 b i;omega
  ·rcases dr.1 c with c|c
   ·exact f.2 p c
   ·have:=d.2 p c;omega
theorem zq:(n:Nat)->(x:Tm n)->(ws:List Wd)->(nm:List ap)->aI ⟨n,x⟩->(pd (bi n x ws nm).2.1 n (bi n x ws nm).1).Nodup/\∀p∈pd (bi n x ws nm).2.1 n (bi n x ws nm).1,ws.length<=p
 | 0,_,_,_,h=>(dq h).elim
 | n+1,x,ws,nm,h=>by
  by_cases q:x.1.1=4
  ·have e:bi (n+1) x ws nm=((4,((bQ (bi n) x.2.2 ws nm).2.1.length:Int)),(bQ (bi n) x.2.2 ws nm).2.1++(0,(x.2.2.length:Int))::(bQ (bi n) x.2.2 ws nm).1,(bQ (bi n) x.2.2 ws nm).2.2):=by
     simp only[bi];rw[if_neg (by omega),if_pos q]
   have r:∀o∈x.2.2,aI ⟨n,o⟩:=λo B=>bf n x o h B;have k:=vk (λx ws nm l=>zq n x ws nm l) x.2.2 ws nm r;have A:=(rD (λx ws nm=>mC n x ws nm) x.2.2 ws nm).1.length_le;have s:=ou (λx ws nm l=>gS n x ws nm l) x.2.2 ws nm r;have v:=gT (bi n) x.2.2 ws nm;rw[e];generalize (bQ (bi n) x.2.2 ws nm).2.1=c at*;generalize (bQ (bi n) x.2.2 ws nm).1=d at*;generalize (bQ (bi n) x.2.2 ws nm).2.2=D at*;have t:(c++(0,(x.2.2.length:Int))::d)[c.length]?=some (0,(x.2.2.length:Int)):=by simp
   have z:cD (c++(0,(x.2.2.length:Int))::d) c.length x.2.2.length=d:=by rw[<-v];exact Hg (gG _)
   have y:d.flatMap (pd (c++(0,(x.2.2.length:Int))::d) n)=d.flatMap (pd c n):=nA λm j=>by
    obtain⟨i,f⟩:=dd j;have u:=(aX.1 f).1;obtain⟨C,b,g⟩:=s i (x.2.2[i]'(by omega)) (aM _);rw[f]at b;injection b with b;subst b;exact rP (pB _ _) n _ m g
   have w:∀p∈d.flatMap (pd c n),p<c.length:=λp a=>by
    obtain⟨m,j,a⟩:=jN.1 a;obtain⟨i,f⟩:=dd j;have u:=(aX.1 f).1;obtain⟨C,b,g⟩:=s i (x.2.2[i]'(by omega)) (aM _);rw[f]at b;injection b with b;subst b;exact zF n _ m g p a
   simp only;rw[rQ t,z,y];refine⟨mZ.2 ⟨λa=>by have:=w _ a;omega,k.1⟩,λp a=>?_⟩;rcases cv.1 a with rfl|a
   ·exact A
   ·exact k.2 p a
  ·have g:=gS (n+1) x ws nm h;rw[mJ (iW g q)];simp
theorem Bo(n:Nat):(l:List (Tm n))->(ws:List Wd)->(nm:List ap)->((bQ (bi n) l ws nm).2.1.length:Int)=ws.length+(l.map (sz n)).sum
 | [],_,_=>by simp[bQ]
 | y::l,ws,nm=>by
  have a:=(iV n y ws nm).1;have b:=Bo n l (bi n y ws nm).2.1 (bi n y ws nm).2.2;simp only[bQ,aU,bN];omega
theorem D9(d:nm.Nodup){p:List (Tm n)}(b:gK ws nm n vs p)(c:(vs.flatMap (pd ws n)).Nodup):(jU ws n vs).1=(bQ (bi n) p [] nm).1/\(jU ws n vs).2.1=(bQ (bi n) p [] nm).2.1/\(bQ (bi n) p [] nm).2.2=nm:=
 (AU (λf e a=>EZ d n f e a) vs p b ([],[]) c (λ_ _=>rfl)).1
def nU:ap:=⟨#[99,111,100,101]⟩
def tY:ap:=⟨#[98,101,104]⟩
def LB:ap:=⟨#[111,110]⟩
def mR:ap:=⟨#[115,101,110,100]⟩
def jj:ap:=⟨#[115,112,97,119,110]⟩
def mQ:ap:=⟨#[108,105,110,107]⟩
def lW:ap:=⟨#[115,116,111,112]⟩
def e9(n:Nat)(x:Tm n):Bool:=(gu n x).1.1==0 && (gu n x).1.2.1==0 && (gu n x).1.2.2.toList.isEmpty && ((gu n x).2.2.1:Int)==0
def wO(s:ap)(v:Int):Bool:=s.toList.isEmpty && v==0
def nW(n:Nat)(a:Ac n):Bool:=
 if a.1=1 then wO a.2.2.1 a.2.2.2
 else if a.1=2 then e9 n a.2.1.1 && dV a.2.2.1 && decide (0<=a.2.2.2) && decide (a.2.2.2<4)
 else if a.1=3 then e9 n a.2.1.2 && wO a.2.2.1 a.2.2.2
 else if a.1=4 then e9 n a.2.1.1 && e9 n a.2.1.2 && wO a.2.2.1 a.2.2.2
 else false
def tJ(n:Nat)(c:Cl n):Bool:=decide ((c.2.2.length:Int)<=8) && c.2.2.all (nW n)
def wI(n:Nat)(b:Bh n):Bool:=dV b.1 && decide (1<=(b.2.2.length:Int)) && decide ((b.2.2.length:Int)<=6) && b.2.2.all (tJ n)
def kF(n:Nat)(l:List (Bh n)):Bool:=decide (1<=(l.length:Int)) && decide ((l.length:Int)<=7) && l.all (wI n)
def bq(s:ap)(N:Nat):Tm (N+1):=((2,0,s),(none,0),[])
def cq(n:Nat)(a:Ac (n+1)):Tm (n+2):=
 if a.1=1 then dl (n+1) [bq mR n,a.2.1.1,a.2.1.2]
 else if a.1=2 then dl (n+1) [bq jj n,bq a.2.2.1 n,a.2.1.2,bT 5 a.2.2.2 n]
 else if a.1=3 then dl (n+1) [bq mQ n,a.2.1.1]
 else dl (n+1) [bq lW n]
def dJ(n:Nat)(c:Cl (n+1)):Tm (n+4):=
 dl (n+3) [bq LB (n+2),aY (n+3) (n+1) c.1.1,aY (n+3) (n+1) c.1.2.1,dl (n+2) (c.2.2.map (cq n)),aY (n+3) (n+1) c.1.2.2]
def dR(n:Nat)(b:Bh (n+1)):Tm (n+5):=dl (n+4) (bq tY (n+3)::bq b.1 (n+3)::b.2.2.map (dJ n))
def cd(n:Nat)(l:List (Bh (n+1))):Tm (n+6):=dl (n+5) (bq nU (n+4)::l.map (dR n))
def eY{a β:Type}(R:a->β->Prop)(l:List a)(r:List β):Prop:=l.length=r.length/\∀(i:Nat)(x:a)(y:β),l[i]?=some x->r[i]?=some y->R x y
theorem eY.nil{β:Type}{R:h->β->Prop}:eY R [] []:=⟨rfl,λi x y a=>by simp at a⟩
theorem eY.snoc{β:Type}{R:h->β->Prop}{r:List β}(d:eY R l r){y:β}(k:R x y):eY R (l++ [x]) (r++ [y]):=by
 refine⟨by simp[d.1],λf i b a c=>?_⟩;by_cases g:f<l.length
 ·rw[dx g]at a;rw[dx (by rw[<-d.1];exact g)]at c;exact d.2 f i b a c
 ·rw[eq (by omega)]at a;rw[eq (by rw[<-d.1];omega)]at c;have e:f-l.length=0:=by
   by_cases e:f-l.length=0
   ·exact e
   ·rw[eN (by simp;omega)]at a;cases a
  rw[<-d.1,e]at c;rw[e]at a;simp at a c;rw[<-a,<-c];exact k
theorem eY.tail{β:Type}{R:h->β->Prop}{y:β}{r:List β}(a:eY R (x::l) (y::r)):R x y/\eY R l r:=
 ⟨a.2 0 x y (by simp) (by simp),by simpa using a.1,λf c b d e=>a.2 (f+1) c b (by simpa using d) (by simpa using e)⟩
theorem eY.all{a β:Type}{R:a->β->Prop}(f:a->Bool)(g:β->Bool)(b:∀x y,R x y->f x=g y):(l:List a)->(r:List β)->eY R l r->l.all f=r.all g
 | [],[],_=>rfl
 | [],_::_,h=>by have:=h.1;simp at this
 | _::_,[],h=>by have:=h.1;simp at this
 | x::l,y::r,h=>by
  simp only[jn,b x y h.tail.1,eY.all f g b l r h.tail.2]
theorem eY.same{c β:Type}{R:c->β->Prop}{n m:Nat}(f:c->Tm n)(g:β->Tm m)(d:∀x y,R x y->aB n (f x) m (g y)=true):(l:List c)->(r:List β)->eY R l r->aG (λa b=>aB n a m b) (l.map f) (r.map g)=true
 | [],[],_=>rfl
 | [],_::_,h=>by have:=h.1;simp at this
 | _::_,[],h=>by have:=h.1;simp at this
 | x::l,y::r,h=>by
  simp only[aU,aG,aK];exact⟨d x y h.tail.1,eY.same f g d l r h.tail.2⟩
def CX(n:Nat)(a b:Ac n):Prop:=a.1=b.1/\aB n a.2.1.1 n b.2.1.1=true/\aB n a.2.1.2 n b.2.1.2=true/\a.2.2=b.2.2
def CR(n:Nat)(a b:Cl n):Prop:=(aB n a.1.1 n b.1.1=true/\aB n a.1.2.1 n b.1.2.1=true/\aB n a.1.2.2 n b.1.2.2=true)/\eY (CX n) a.2.2 b.2.2
def yN(n:Nat)(a b:Bh n):Prop:=a.1=b.1/\eY (CR n) a.2.2 b.2.2
theorem FC{x:Tm n}{y:Tm m}(a:aB n x m y=true):(gu n x).1=(gu m y).1/\(gu n x).2.2.1=(gu m y).2.2.1:=by
 cases n with
 | zero=>simp[aB]at a
 | succ n=>
  cases m with
  | zero=>simp[aB]at a
  | succ m=>
   have b:=bL a;have c:=cP _ _ _ b.2;simp only[gu,bI];exact⟨b.1,c⟩
theorem rT{x:Tm n}{y:Tm m}(b:aB n x m y=true):e9 n x=e9 m y:=by
 have a:=FC b;simp only[e9,a.1,a.2]
theorem O8{a b:Ac n}(c:CX n a b):nW n a=nW n b:=by
 obtain⟨d,e,f,g⟩:=c;simp only[nW,d,g,rT e,rT f]
theorem Pa{a b:Cl n}(c:CR n a b):tJ n a=tJ n b:=by
 simp only[tJ,c.2.1,eY.all (R:=CX n) (nW n) (nW n) (λ_ _ c=>O8 c) _ _ c.2]
theorem O9{a b:Bh n}(c:yN n a b):wI n a=wI n b:=by
 simp only[wI,c.1,c.2.1,eY.all (R:=CR n) (tJ n) (tJ n) (λ_ _ c=>Pa c) _ _ c.2]
theorem Kv{l r:List (Bh n)}(a:eY (yN n) l r):kF n l=kF n r:=by
 simp only[kF,a.1,eY.all (R:=yN n) (wI n) (wI n) (λ_ _ a=>O9 a) _ _ a]
theorem dZ(s:ap)(N M:Nat):aB (N+1) (bq s N) (M+1) (bq s M)=true:=dh rfl rfl
theorem DE(k u:Int)(N M:Nat):aB (N+1) (bT k u N) (M+1) (bT k u M)=true:=dh rfl rfl
theorem gX{M:Nat}{l:List (Tm N)}{r:List (Tm M)}(c:aG (λa b=>aB N a M b) l r=true):aB (N+1) (dl N l) (M+1) (dl M r)=true:=dh rfl c
theorem mD:(N n:Nat)->n<=N->(x:Tm n)->aB n x n x=true->aB N (aY N n x) n x=true
 | _,0,_,_,h=>by simp[aB]at h
 | 0,n+1,h,_,_=>by omega
 | N+1,n+1,h,x,hr=>by
  have b:=(bL hr).2;refine dh rfl (jd _ _ _ λy c=>mD N n (by omega) y ?_);obtain⟨i,a⟩:=dd c;exact jF _ _ _ b i y y a a
theorem ye{x:Tm n}{y:Tm m}(a:aB n x m y=true):aB n x n x=true:=bM _ _ _ _ _ _ a (dB _ _ _ _ a)
theorem Ee{x:Tm n}{y:Tm m}(a:aB n x m y=true):aB m y m y=true:=bM _ _ _ _ _ _ (dB _ _ _ _ a) a
theorem oW(c:n<=N)(b:m<=N){x:Tm n}{y:Tm m}(a:aB n x m y=true):aB N (aY N n x) N (aY N m y)=true:=
 bM _ _ _ _ _ _ (mD N n c x (ye a)) (bM _ _ _ _ _ _ a (dB _ _ _ _ (mD N m b y (Ee a))))
theorem lQ{B:Nat}{w:ag}:{n:Nat}->{x:Tm n}->In B w n x->aB n x n x=true
 | 0,_,k=>k.elim
 | n+1,x,k=>by
  refine dh rfl (je _ _ λy a=>?_);obtain⟨i,c⟩:=dd a;rcases k.2 with e|⟨b,o,_,_,d⟩
  ·rw[e]at a;cases a
  ·exact lQ (d i y c).2
theorem I1{a b:Ac (n+1)}(e:CX (n+1) a b):aB (n+2) (cq n a) (n+2) (cq n b)=true:=by
 obtain⟨f,c,d,g⟩:=e;unfold cq;rw[f,g];split
 ·exact gX (by simp[aG,dZ,c,d])
 split
 ·exact gX (by simp[aG,dZ,DE,d])
 split
 ·exact gX (by simp[aG,dZ,c])
 ·exact gX (by simp[aG,dZ])
theorem Jh{a b:Cl (n+1)}(c:CR (n+1) a b):aB (n+4) (dJ n a) (n+4) (dJ n b)=true:=by
 have d:=eY.same (cq n) (cq n) (λ_ _ c=>I1 c) _ _ c.2;exact gX (by simp only[aG,aK];exact⟨dZ _ _ _,oW (by omega) (by omega) c.1.1,oW (by omega) (by omega) c.1.2.1,gX d,oW (by omega) (by omega) c.1.2.2,trivial⟩)
theorem I7{a b:Bh (n+1)}(c:yN (n+1) a b):aB (n+5) (dR n a) (n+5) (dR n b)=true:=by
 have d:=eY.same (dJ n) (dJ n) (λ_ _ c=>Jh c) _ _ c.2;refine gX ?_;simp only[aG,aK];exact⟨dZ _ _ _,by rw[c.1];exact dZ _ _ _,d⟩
theorem Kw{l r:List (Bh (n+1))}(a:eY (yN (n+1)) l r):aB (n+6) (cd n l) (n+6) (cd n r)=true:=by
 have b:=eY.same (dR n) (dR n) (λ_ _ a=>I7 a) _ _ a;refine gX ?_;simp only[aG,aK];exact⟨dZ _ _ _,b⟩
theorem dI(k u:Int)(s:ap)(a:aw)(l c:Nat)(w:ag):am 195 #[.agg #[ab k,ab u,af s,ae a l c]] w λe w'=>e=.returned (.bool (k==0 && u==0 && s.toList.isEmpty && (l:Int)==0))/\w'=w.alloc (.cells #[ab k,ab u,af s,ae a l c] 31):=by
 cases h1:k==0
 ·go_enter func195,ntmps195;go_wp2_with fail
  go_ret
  exact⟨rfl,rfl⟩
 cases h2:u==0
 ·go_enter func195,ntmps195;go_wp2_with fail
  go_ret
  exact⟨rfl,rfl⟩
 cases h3:s.toList.isEmpty
 ·go_enter func195,ntmps195;go_wp2_with fail
  go_ret
  exact⟨rfl,rfl⟩
 go_enter func195,ntmps195;go_wp2_with fail
 go_ret
 exact⟨rfl,rfl⟩
theorem qF(K a t1 f g v:Int)(t2 h s:ap)(b i:aw)(c d j k:Nat)(w:ag):am 194 #[.agg #[ab K,ab a,ab t1,af t2,ae b c d,ab f,ab g,af h,ae i j k,af s,ab v]] w λe w'=>e=.returned (.bool (wO s v))/\w'=w.alloc (.cells #[ab K,ab a,ab t1,af t2,ae b c d,ab f,ab g,af h,ae i j k,af s,ab v] 248):=by
 unfold wO;cases h3:s.toList.isEmpty
 ·go_enter func194,ntmps194;go_wp2_with fail
  go_ret
  exact⟨rfl,rfl⟩
 go_enter func194,ntmps194;go_wp2_with fail
 go_ret
 exact⟨rfl,rfl⟩
theorem Dx(K o t1 q r v:Int)(t2 t s:ap)(x z:aw)(p y u A:Nat)(w:ag)(m:s.size<=9223372036854775807)(h i l n:Bool)(a:Hid ((o==0 && t1==0 && t2.toList.isEmpty && (p:Int)==0)=h))(d:Hid ((q==0 && r==0 && t.toList.isEmpty && (u:Int)==0)=i))(j:Hid (wO s v=l))(f:Hid (dV s=n)):am 179 #[.agg #[ab K,ab o,ab t1,af t2,ae x p y,ab q,ab r,af t,ae z u A,af s,ab v]] w λe w'=>e=.returned (.bool (if K=1 then l else if K=2 then h && n && decide (0<=v) && decide (v<4)else if K=3 then i && l else if K=4 then h && i && l else false))/\ak w w':=by
 by_cases b:K=1
 ·subst b;rw[if_pos rfl];go_enter func179,ntmps179;go_wp2_with (go_at_call 194;refine(qF _ _ _ _ _ _ _ _ _ _ _ _ _ _ _ _).mono ?_;rintro e w' ⟨rfl,rfl⟩;rw[j.out])
  go_ret
  exact⟨rfl,by go_grown⟩
 rw[if_neg b];by_cases c:K=2
 ·subst c;rw[if_pos rfl];clear d j b;cases h
  ·go_enter func179,ntmps179;go_wp2_with (go_at_call 195;refine(dI _ _ _ _ _ _ _).mono ?_;rintro e w' ⟨rfl,rfl⟩;rw[a.out])
   go_ret
   exact⟨rfl,by go_grown⟩
  cases n
  ·go_enter func179,ntmps179;go_wp2_with (first|(go_at_call 195;refine(dI _ _ _ _ _ _ _).mono ?_;rintro e w' ⟨rfl,rfl⟩;rw[a.out])|(go_at_call 71;refine(iU _ _ m).mono ?_;rintro e w' ⟨rfl,rfl⟩;rw[f.out]))
   go_ret
   exact⟨rfl,by go_grown⟩
  cases hv:decide (0<=v)
  ·go_enter func179,ntmps179;go_wp2_with (first|(go_at_call 195;refine(dI _ _ _ _ _ _ _).mono ?_;rintro e w' ⟨rfl,rfl⟩;rw[a.out])|(go_at_call 71;refine(iU _ _ m).mono ?_;rintro e w' ⟨rfl,rfl⟩;rw[f.out]))
   go_ret
   exact⟨rfl,by go_grown⟩
  ·go_enter func179,ntmps179;go_wp2_with (first|(go_at_call 195;refine(dI _ _ _ _ _ _ _).mono ?_;rintro e w' ⟨rfl,rfl⟩;rw[a.out])|(go_at_call 71;refine(iU _ _ m).mono ?_;rintro e w' ⟨rfl,rfl⟩;rw[f.out]))
   go_ret
   exact⟨rfl,by go_grown⟩
 rw[if_neg c];by_cases g:K=3
 ·subst g;rw[if_pos rfl];clear a f b c;cases i
  ·go_enter func179,ntmps179;go_wp2_with (go_at_call 195;refine(dI _ _ _ _ _ _ _).mono ?_;rintro e w' ⟨rfl,rfl⟩;rw[d.out])
   go_ret
   exact⟨rfl,by go_grown⟩
  ·go_enter func179,ntmps179;go_wp2_with (first|(go_at_call 195;refine(dI _ _ _ _ _ _ _).mono ?_;rintro e w' ⟨rfl,rfl⟩;rw[d.out])|(go_at_call 194;refine(qF _ _ _ _ _ _ _ _ _ _ _ _ _ _ _ _).mono ?_;rintro e w' ⟨rfl,rfl⟩;rw[j.out]))
   go_ret
   exact⟨rfl,by go_grown⟩
 rw[if_neg g];by_cases k:K=4
 ·subst k;rw[if_pos rfl];clear f b c g;cases h
  ·go_enter func179,ntmps179;go_wp2_with (go_at_call 195;refine(dI _ _ _ _ _ _ _).mono ?_;rintro e w' ⟨rfl,rfl⟩;rw[a.out])
   go_ret
   exact⟨rfl,by go_grown⟩
  cases i
  ·go_enter func179,ntmps179;go_wp2_with (go_at_call 195;refine(dI _ _ _ _ _ _ _).mono ?_;rintro e w' ⟨rfl,rfl⟩;first|rw[a.out]|rw[d.out])
   go_ret
   exact⟨rfl,by go_grown⟩
  ·go_enter func179,ntmps179;go_wp2_with (first|(go_at_call 195;refine(dI _ _ _ _ _ _ _).mono ?_;rintro e w' ⟨rfl,rfl⟩;first|rw[a.out]|rw[d.out])|(go_at_call 194;refine(qF _ _ _ _ _ _ _ _ _ _ _ _ _ _ _ _).mono ?_;rintro e w' ⟨rfl,rfl⟩;rw[j.out]))
   go_ret
   exact⟨rfl,by go_grown⟩
 rw[if_neg k];have B:(K==1)=false:=by simpa using b
 have C:(K==2)=false:=by simpa using c
 have D:(K==3)=false:=by simpa using g
 have E:(K==4)=false:=by simpa using k
 clear b c g k;go_enter func179,ntmps179;go_wp2_with fail
 go_ret
 exact⟨rfl,by go_grown⟩
theorem GG(n:Nat)(a:Ac (n+1))(w:ag)(b:a.2.2.1.size<=maxLen):am 179 #[.agg (gi (n+1) a).toArray] w λe w'=>e=.returned (.bool (nW (n+1) a))/\ak w w':=by
 unfold maxLen at b;exact Dx a.1 _ _ _ _ _ _ _ _ _ _ _ _ _ _ w (by omega) _ _ _ _ rfl rfl rfl rfl
def NH(n:Nat)(w:ag)(b o:Nat)(x:Ac (n+1)):Prop:=
 w.cell? ⟨b,o,none⟩=some (ab x.1)/\
 (w.cell? ⟨b,o+1,none⟩=some (ab x.2.1.1.1.1)/\w.cell? ⟨b,o+2,none⟩=some (ab x.2.1.1.1.2.1)/\w.cell? ⟨b,o+3,none⟩=some (af x.2.1.1.1.2.2)/\w.cell? ⟨b,o+4,none⟩=some (ae x.2.1.1.2.1.1 x.2.1.1.2.2.length x.2.1.1.2.1.2))/\
 (w.cell? ⟨b,o+5,none⟩=some (ab x.2.1.2.1.1)/\w.cell? ⟨b,o+6,none⟩=some (ab x.2.1.2.1.2.1)/\w.cell? ⟨b,o+7,none⟩=some (af x.2.1.2.1.2.2)/\w.cell? ⟨b,o+8,none⟩=some (ae x.2.1.2.2.1.1 x.2.1.2.2.2.length x.2.1.2.2.1.2))/\
 w.cell? ⟨b,o+9,none⟩=some (af x.2.2.1)/\w.cell? ⟨b,o+10,none⟩=some (ab x.2.2.2)
def NL(n:Nat)(w:ag)(b o:Nat)(x:Cl (n+1)):Prop:=
 (w.cell? ⟨b,o,none⟩=some (ab x.1.1.1.1)/\w.cell? ⟨b,o+1,none⟩=some (ab x.1.1.1.2.1)/\w.cell? ⟨b,o+2,none⟩=some (af x.1.1.1.2.2)/\w.cell? ⟨b,o+3,none⟩=some (ae x.1.1.2.1.1 x.1.1.2.2.length x.1.1.2.1.2))/\
 (w.cell? ⟨b,o+4,none⟩=some (ab x.1.2.1.1.1)/\w.cell? ⟨b,o+5,none⟩=some (ab x.1.2.1.1.2.1)/\w.cell? ⟨b,o+6,none⟩=some (af x.1.2.1.1.2.2)/\w.cell? ⟨b,o+7,none⟩=some (ae x.1.2.1.2.1.1 x.1.2.1.2.2.length x.1.2.1.2.1.2))/\
 w.cell? ⟨b,o+8,none⟩=some (ae x.2.1.1 x.2.2.length x.2.1.2)/\
 (w.cell? ⟨b,o+9,none⟩=some (ab x.1.2.2.1.1)/\w.cell? ⟨b,o+10,none⟩=some (ab x.1.2.2.1.2.1)/\w.cell? ⟨b,o+11,none⟩=some (af x.1.2.2.1.2.2)/\w.cell? ⟨b,o+12,none⟩=some (ae x.1.2.2.2.1.1 x.1.2.2.2.2.length x.1.2.2.2.1.2))
theorem qi.ac{e:Ac (n+1)->Prop}{p:List (Ac (n+1))}(d:qi B w 11 (gi (n+1)) e a p)(k:Nat)(x:Ac (n+1))(f:p[k]?=some x):∃b o,a=some ⟨b,o,none⟩/\b<B/\NH n w b (o+k*11) x/\e x:=by
 rcases d with d|⟨b,o,g,i,d⟩
 ·subst d;simp at f
 ·obtain⟨c,h⟩:=d k x f;exact⟨b,o,g,i,⟨c 0 _ rfl,⟨c 1 _ rfl,c 2 _ rfl,c 3 _ rfl,c 4 _ rfl⟩,⟨c 5 _ rfl,c 6 _ rfl,c 7 _ rfl,c 8 _ rfl⟩,c 9 _ rfl,c 10 _ rfl⟩,h⟩
theorem qi.cl{e:Cl (n+1)->Prop}{p:List (Cl (n+1))}(d:qi B w 13 (fk (n+1)) e a p)(k:Nat)(x:Cl (n+1))(f:p[k]?=some x):∃b o,a=some ⟨b,o,none⟩/\b<B/\NL n w b (o+k*13) x/\e x:=by
 rcases d with d|⟨b,o,g,i,d⟩
 ·subst d;simp at f
 ·obtain⟨c,h⟩:=d k x f;exact⟨b,o,g,i,⟨⟨c 0 _ rfl,c 1 _ rfl,c 2 _ rfl,c 3 _ rfl⟩,⟨c 4 _ rfl,c 5 _ rfl,c 6 _ rfl,c 7 _ rfl⟩,c 8 _ rfl,c 9 _ rfl,c 10 _ rfl,c 11 _ rfl,c 12 _ rfl⟩,h⟩
theorem qi.bh{d:Bh (n+1)->Prop}{p:List (Bh (n+1))}(c:qi B w 2 (pN (n+1)) d a p)(k:Nat)(x:Bh (n+1))(f:p[k]?=some x):∃b o,a=some ⟨b,o,none⟩/\b<B/\(w.cell? ⟨b,o+k*2,none⟩=some (af x.1)/\w.cell? ⟨b,o+k*2+1,none⟩=some (ae x.2.1.1 x.2.2.length x.2.1.2))/\d x:=by
 rcases c with c|⟨b,o,g,i,c⟩
 ·subst c;simp at f
 ·obtain⟨e,h⟩:=c k x f;exact⟨b,o,g,i,⟨e 0 _ rfl,e 1 _ rfl⟩,h⟩
theorem kE{b:Nat->ag->h->Prop}{c:(Nat->Prop)->h->Prop}(e:jZ b c){f:h->List av}(g:Below B w w')(d:qi B w k f (b B w) a l):qi B w' k f (b B w') a l:=(cN e k f a).below g d
theorem AC(n:Nat)(p:List (Ac (n+1)))(len:Nat)(r:Hid (p.length=len))(a:aw)(pc B:Nat)(w:ag)(u:Hid (qi B w 11 (gi (n+1)) (iJ (n+1) B w) a p))(C:len<=9223372036854775807)(s:B<=w.heap.size):am 141 #[ae a len pc] w λe w'=>e=.returned (.bool (decide ((len:Int)<=8) && p.all (nW (n+1))))/\ak w w':=by
 by_cases x:(8:Int)<len
 ·have f:decide ((len:Int)<=8)=false:=by simp;omega
  rw[f];go_enter func141,ntmps141;go_wp2_with fail
  go_ret
  exact⟨rfl,aq _ _⟩
 have f:decide ((len:Int)<=8)=true:=by simp;omega
 rw[f,eJ];clear f;go_enter func141,ntmps141;go_wp2_with fail;go_loopw [10] (λj wr=>∃k:Nat,k<=len/\j=ab k/\ak w wr/\Hid ((p.drop k).all (nW (n+1))=p.all (nW (n+1)))) (λj _=>len-(intOf j).toNat)
 case atStart=>exact⟨0,by omega,rfl,aq _ _,rfl⟩
 case round=>
  obtain⟨k,y,rfl,d,h⟩:=hrel;by_cases t:k<len
  ·obtain⟨b,i⟩:∃b,p[k]?=some b:=⟨p[k]'(by rw[r.out];exact t),aM _⟩;have l:=au (qZ (nW (n+1)) p k b i);obtain⟨E,po,rfl,D,⟨F,⟨G,I,J,K⟩,⟨L,M,N,O⟩,P,H⟩,q⟩:=(kE (fO (n+1)) (d.mono s) u).ac k b i;have g:=λc=>au (GG n b c q.2.2.2.1);replace g:Hid (∀c,am 179 #[.agg #[ab b.1,ab b.2.1.1.1.1,ab b.2.1.1.1.2.1,af b.2.1.1.1.2.2,ae b.2.1.1.2.1.1 b.2.1.1.2.2.length b.2.1.1.2.1.2,ab b.2.1.2.1.1,ab b.2.1.2.1.2.1,af b.2.1.2.1.2.2,ae b.2.1.2.2.1.1 b.2.1.2.2.2.length b.2.1.2.2.1.2,af b.2.2.1,ab b.2.2.2]] c λe w'=>e=.returned (.bool (nW (n+1) b))/\ak c w'):=λc=>(g c);clear q i;generalize nW (n+1) b=v at*;have z:(0:Int)<=(k:Int):=by omega
   have A:(k:Int)<(len:Int):=by omega
   go_wp2_with fail;refine(g _).mono ?_;rintro e c ⟨rfl,m⟩;have o:ak w c:=(d.trans (((aq _ _).alloc (ao _) _).mono d.size)).trans (m.mono (by have:=d.size;simp;omega));clear m;cases v with
   | true=>
    go_wp2_with fail;go_roundw
    case rel=>exact⟨k+1,by omega,by go_num,o,by rw[<-h.out,l.out];rfl⟩
    case measure=>simp[intOf];omega
   | false=>
    go_wp2_with fail
    go_ret
    exact⟨bU (by rw[<-h.out,l.out];rfl),o⟩
  ·go_wp2_with fail
   go_ret
   refine⟨bU ?_,d⟩;rw[<-h.out,gC (by rw[r.out];omega)];rfl
theorem uC(n:Nat)(p:List (Cl (n+1)))(len:Nat)(s:Hid (p.length=len))(a:aw)(pc B:Nat)(w:ag)(y:Hid (qi B w 13 (fk (n+1)) (ig (n+1) B w) a p))(G:len<=9223372036854775807)(m:B<=w.heap.size):am 100 #[ae a len pc] w λe w'=>e=.returned (.bool (decide (1<=(len:Int)) && decide ((len:Int)<=6) && p.all (tJ (n+1))))/\ak w w':=by
 by_cases A:(len:Int)<1
 ·have v:decide (1<=(len:Int))=false:=by simp;omega
  rw[v];go_enter func100,ntmps100;go_wp2_with fail
  go_ret
  exact⟨rfl,aq _ _⟩
 by_cases C:(6:Int)<len
 ·have f:decide ((len:Int)<=6)=false:=by simp;omega
  rw[f];go_enter func100,ntmps100;go_wp2_with fail
  go_ret
  exact⟨bU (by simp),aq _ _⟩
 have f:(decide (1<=(len:Int)) && decide ((len:Int)<=6))=true:=by simp;omega
 rw[f,eJ];clear f;go_enter func100,ntmps100;go_wp2_with fail;go_loopw [15] (λj wr=>∃k:Nat,k<=len/\j=ab k/\ak w wr/\Hid ((p.drop k).all (tJ (n+1))=p.all (tJ (n+1)))) (λj _=>len-(intOf j).toNat)
 case atStart=>exact⟨0,by omega,rfl,aq _ _,rfl⟩
 case round=>
  obtain⟨k,D,rfl,d,g⟩:=hrel;by_cases x:k<len
  ·obtain⟨b,i⟩:∃b,p[k]?=some b:=⟨p[k]'(by rw[s.out];exact x),aM _⟩;have l:=au (qZ (tJ (n+1)) p k b i);obtain⟨I,po,rfl,H,⟨⟨J,K,O,P⟩,⟨Q,R,S,T⟩,U,V,L,M,N⟩,h⟩:=(kE (eE (n+1)) (d.mono m) y).cl k b i;have o:B<=wr.heap.size:=aD m d.size
   have u:Hid (∀c,ak wr c->am 141 #[ae b.2.1.1 b.2.2.length b.2.1.2] c λe w'=>e=.returned (.bool (tJ (n+1) b))/\ak c w'):=
    λc t=>AC n b.2.2 b.2.2.length rfl b.2.1.1 b.2.1.2 B c (kE (fO (n+1)) (t.mono o) h.2.2) (by have:=h.2.1;unfold maxLen at this;omega) (aD o t.size)
   clear h i;generalize tJ (n+1) b=z at*;have E:(0:Int)<=(k:Int):=by omega
   have F:(k:Int)<(len:Int):=by omega
   go_wp2_with fail;refine(u _ ((aq _ _).alloc (ao _) _)).mono ?_;rintro e c ⟨rfl,q⟩;have r:ak w c:=(d.trans (((aq _ _).alloc (ao _) _).mono d.size)).trans (q.mono (by have:=d.size;simp;omega));clear q;cases z with
   | true=>
    go_wp2_with fail;go_roundw
    case rel=>exact⟨k+1,by omega,by go_num,r,by rw[<-g.out,l.out];rfl⟩
    case measure=>simp[intOf];omega
   | false=>
    go_wp2_with fail
    go_ret
    exact⟨bU (by rw[<-g.out,l.out];rfl),r⟩
  ·go_wp2_with fail
   go_ret
   refine⟨bU ?_,d⟩;rw[<-g.out,gC (by rw[s.out];omega)];rfl
theorem N5(n:Nat)(x:Bh n):wI n x=(dV x.1 && (decide (1<=(x.2.2.length:Int)) && decide ((x.2.2.length:Int)<=6) && x.2.2.all (tJ n))):=by
 simp only[wI,Bool.and_assoc]
theorem pV(n:Nat)(p:List (Bh (n+1)))(len:Nat)(l:Hid (p.length=len))(a:aw)(pc B:Nat)(w:ag)(D:Hid (gq (n+1) B w a p))(M:len<=9223372036854775807)(s:B<=w.heap.size):am 65 #[ae a len pc] w λe w'=>e=.returned (.bool (kF (n+1) p))/\ak w w':=by
 have r:Hid (kF (n+1) p=(decide (1<=(len:Int)) && decide ((len:Int)<=7) && p.all (wI (n+1)))):=by
  show kF (n+1) p=_;rw[<-l.out];rfl
 rw[r.out];by_cases H:(len:Int)<1
 ·have A:decide (1<=(len:Int))=false:=by simp;omega
  rw[A];go_enter func65,ntmps65;go_wp2_with fail
  go_ret
  exact⟨rfl,aq _ _⟩
 by_cases I:(7:Int)<len
 ·have f:decide ((len:Int)<=7)=false:=by simp;omega
  rw[f];go_enter func65,ntmps65;go_wp2_with fail
  go_ret
  exact⟨bU (by simp),aq _ _⟩
 have f:(decide (1<=(len:Int)) && decide ((len:Int)<=7))=true:=by simp;omega
 rw[f,eJ];clear f r;go_enter func65,ntmps65;go_wp2_with fail;go_loopw [15] (λo wr=>∃k:Nat,k<=len/\o=ab k/\ak w wr/\Hid ((p.drop k).all (wI (n+1))=p.all (wI (n+1)))) (λo _=>len-(intOf o).toNat)
 case atStart=>exact⟨0,by omega,rfl,aq _ _,rfl⟩
 case round=>
  obtain⟨k,J,rfl,d,g⟩:=hrel;by_cases C:k<len
  ·obtain⟨b,m⟩:∃b,p[k]?=some b:=⟨p[k]'(by rw[l.out];exact C),aM _⟩;have j:=au (qZ (wI (n+1)) p k b m);obtain⟨O,po,rfl,N,⟨Q,R⟩,h⟩:=(gq.below (d.mono s) D).bh k b m;have t:B<=wr.heap.size:=aD s d.size;have E:b.1.size<=9223372036854775807:=by have:=h.1;unfold maxLen at this;omega
   have z:Hid (∀c,ak wr c->am 100 #[ae b.2.1.1 b.2.2.length b.2.1.2] c λe w'=>e=.returned (.bool (decide (1<=(b.2.2.length:Int)) && decide ((b.2.2.length:Int)<=6) && b.2.2.all (tJ (n+1))))/\ak c w'):=
    λc y=>uC n b.2.2 b.2.2.length rfl b.2.1.1 b.2.1.2 B c (kE (eE (n+1)) (y.mono t) h.2.2) (by have:=h.2.1;unfold maxLen at this;omega) (aD t y.size)
   have i:=au (N5 (n+1) b);clear h m;generalize (decide (1<=(b.2.2.length:Int)) && decide ((b.2.2.length:Int)<=6) && b.2.2.all (tJ (n+1)))=F at*;have K:(0:Int)<=(k:Int):=by omega
   have L:(k:Int)<(len:Int):=by omega
   have q:=λc=>au (iU b.1 c E);generalize dV b.1=G at*;generalize wI (n+1) b=P at*;have u:ak w (wr.alloc (.cells #[af b.1,ae b.2.1.1 b.2.2.length b.2.1.2] 151)):=d.trans (((aq _ _).alloc (ao _) _).mono d.size);cases G with
   | false=>
    go_wp2_with (go_at_call 71;refine(q _).mono ?_;rintro e w' ⟨rfl,rfl⟩)
    go_ret
    exact⟨bU (by rw[<-g.out,j.out,i.out];rfl),u⟩
   | true=>
    go_wp2_with (first|(go_at_call 71;refine(q _).mono ?_;rintro e w' ⟨rfl,rfl⟩)|(go_at_call 100;refine(z _ ((aq _ _).alloc (ao _) _)).mono ?_;rintro e c ⟨rfl,v⟩;have x:ak w c:=u.trans (v.mono (by have:=d.size;simp;omega));clear v;cases F))
    ·go_ret
     exact⟨bU (by rw[<-g.out,j.out,i.out];rfl),x⟩
    ·go_roundw
     case rel=>exact⟨k+1,by omega,by go_num,x,by rw[<-g.out,j.out,i.out];rfl⟩
     case measure=>simp[intOf];omega
  ·go_wp2_with fail
   go_ret
   refine⟨bU ?_,d⟩;rw[<-g.out,gC (by rw[l.out];omega)];rfl
end Go.Proofs.YtmmahddlcldmiaaGreat
