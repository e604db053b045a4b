/- Proved here: plain facts and contracts. No condition but what each names. -/
import Derived.Test.YtmmahddlcldmiaaGreatR04
import Derived.Deep.MidRow
namespace Go.Proofs.YtmmahddlcldmiaaGreat
open Go.RowKit Go.Proofs.Tryz
open Go.RowKit Go.Maps
set_option maxHeartbeats 4000000
set_option maxRecDepth 100000
def zT(N:Nat):Tm (N+1):=((0,0,.empty),(none,0),[])
def mF(n:Nat)(p:List (Bh (n+1))):Int:=if kO (n+1) p then bG (n+6) (cg n p)else 5
def LZ(n:Nat)(p:List (Bh (n+1))):Tm (n+6):=if mF n p=0 then cg n p else zT (n+5)
def JJ(B n:Nat)(p:List (Bh (n+1)))(w:ag)(e:Ending)(w':ag):Prop:=
 ∃a:Tm (n+6),e=.returned (.tuple #[dB (n+6) a,ab (mF n p)])/\Hid (am w w'/\In w'.heap.size w' (n+6) a/\cv (λb=>b<B\/w.heap.size<=b) (n+6) a/\aB (n+6) a (n+6) (LZ n p)=true)
theorem lR(N B:Nat)(w:ag):In B w (N+1) (zT N):=⟨⟨by simp[zT,dI],by simp[zT,dI],aM _,by simp[zT],by simp[zT]⟩,aj rfl⟩
theorem Gm{B n:Nat}{p:List (Bh (n+1))}{w w':ag}{k:Int}(b:am w w')(c:k=mF n p)(a:¬k=0):JJ B n p w (.returned (.tuple #[.agg #[ab 0,ab 0,af .empty,ae none 0 0],ab k])) w':=by
 subst c;refine⟨zT (n+5),rfl,b,lR _ _ _,aj rfl,?_⟩;unfold LZ;rw[if_neg a];exact mg (lR _ 0 w)
theorem yx{n:Nat}{p:List (Bh n)}(a:kO n p=true):p.length<=7/\∀b∈p,b.2.2.length<=6/\∀c∈b.2.2,c.2.2.length<=8:=by
 simp only[kO,xi,uc,aK,cr,cG]at a;refine⟨by omega,λb d=>⟨by have:=(a.2 b d).1.2;omega,λc e=>by have:=((a.2 b d).2 c e).1;omega⟩⟩
theorem rD(w:ag)(v0 v1 v2 v3:ar)(t:TypeId){w':ag}(a:Below (w.alloc (.cells #[v0,v1,v2,v3] t)).heap.size (w.alloc (.cells #[v0,v1,v2,v3] t)) w'):w'.heap[w.heap.size]?=some (.cells #[v0,v1,v2,v3] t):=
 (a.block _ (by simp)).trans (aD w _)
theorem L0(n:Nat)(p:List (Bh (n+1)))(a:au)(pc:Nat)(aw:p.length<=pc)(ai:pc<=maxLen)(B:Nat)(w:ag)(L:gG (n+1) B w a p)(A:B<=w.heap.size)(ad:kO (n+1) p=true->(aC (n+6) (cg n p)).length<=2097152):ao 37 #[ae a p.length pc] w (JJ B n p w):=by
 have Q:Hid (∀f,am w f->ao 65 #[ae a p.length pc] f λk m=>k=.returned (.bool (kO (n+1) p))/\am f m):=
  λf s=>qh n p p.length rfl a pc B f (L.below (s.mono A)) (by unfold maxLen at ai;omega) (aF A s.size)
 have G:Hid (kO (n+1) p=true->∀f,am w f->ao 66 #[ae a p.length pc] f (jc B (n+6) (cg n p) f)):=
  λs f z=>uv n p a pc B f (L.below (z.mono A)) (yx s).1 (yx s).2 (aF A z.size)
 have x:Hid (mF n p=if kO (n+1) p then bG (n+6) (cg n p)else 5):=rfl;have R:=aq ad;have T:Hid (LZ n p=if mF n p=0 then cg n p else zT (n+5)):=rfl;clear L ad aw ai;generalize p.length=len at*;generalize kO (n+1) p=aG at*;go_enter func37,ntmps37;go_wp2_with fail;refine(Q _ aX).mono ?_;rintro k f ⟨rfl,J⟩;have h:=aq (rD w _ _ _ _ _ J);have r:Hid (am w f):=aX.trans (J.mono (by simp));have az:w.heap.size<f.heap.size:=(aI.1 h).1;clear J Q;cases aG
 ·have d0:ah f w.heap.size 0 (ab 0):=ax h 0;have d1:ah f w.heap.size 1 (ab 0):=ax h 1;have d2:ah f w.heap.size 2 (af ⟨#[]⟩):=ax h 2;have d3:ah f w.heap.size 3 (ae none 0 0):=ax h 3;have f0:=λu=>dg h u;clear G h;go_wp2_with fail;exact ay (v:=.tuple #[.agg #[ab 0,ab 0,af .empty,ae none 0 0],ab 5]) (by simp[results,results37,go_sem,d0,d1,d2,d3];rfl) rfl (Gm (dR r (av _)) (by rw[x.out];rfl) (by omega))
 ·have S:=aq (G rfl f r);go_wp2_with fail;refine S.mono ?_;rintro k g ⟨d,rfl,j⟩;have M:Hid (am w g):=r.trans (j.1.mono r.size);have Y:dB (n+6) d=.agg #[ab d.1.1,ab d.1.2.1,af d.1.2.2,ae d.2.1.1 d.2.2.length d.2.1.2]:=rfl;have O:Hid (∀e,am g e->ao 53 #[.agg #[ab d.1.1,ab d.1.2.1,af d.1.2.2,ae d.2.1.1 d.2.2.length d.2.1.2]] e λk m=>k=.returned (ab (mF n p))/\am e m):=λe t=>by
   have:=ed (n+6) d g.heap.size e (j.2.1.below t) t.size (by rw[kR _ _ _ _ j.out.2.2.2];exact R (by simp));rw[bZ j.out.2.2.2]at this;rw[x.out];exact this
  have F:Hid (mF n p=0->∀e,am g e->ao 56 #[.agg #[ab d.1.1,ab d.1.2.1,af d.1.2.2,ae d.2.1.1 d.2.2.length d.2.1.2]] e λk m=>∃c:Tm (n+6),k=.returned (dB (n+6) c)/\Hid (am e m/\In m.heap.size m (n+6) c/\cv (λaE=>e.heap.size<=aE) (n+6) c/\aB (n+6) c (n+6) d=true)):=λap e t=>
   iG (n+6) d g.heap.size e (j.2.1.below t) t.size (aU.2 (by have z:bG (n+6) (cg n p)=0:=(by simpa [x.out]using ap);rw[jR _ _ _ _ j.out.2.2.2];exact(bJ.1 z).1))
  have an:=aq j.2.2.2;have H:=aq ((j.1.block _ az).trans h);have aA:w.heap.size<g.heap.size:=(aI.1 H).1;rw[Y];clear G S h r j Y R;generalize aa:mF n p=C at*;have P:=aq aa;clear aa x;go_wp2_with fail;refine(O _ aX).mono ?_;rintro k e ⟨rfl,K⟩;have E:Hid (am g e):=aX.trans (K.mono (by simp));have D:Hid (am w e):=M.trans (E.mono M.size);have y:=aq (rD g _ _ _ _ _ K);have i:=aq ((E.block _ aA).trans H);have aD:w.heap.size<e.heap.size:=(aI.1 i).1;have U:ah e g.heap.size 0 (ab d.1.1):=ax y 0;have V:ah e g.heap.size 1 (ab d.1.2.1):=ax y 1;have W:ah e g.heap.size 2 (af d.1.2.2):=ax y 2;have X:ah e g.heap.size 3 (ae d.2.1.1 d.2.2.length d.2.1.2):=ax y 3;clear K O H;by_cases I:C=0
  ·subst I;have aj:=aq (F rfl e E);clear F;go_wp2_with fail;refine aj.mono ?_;rintro k q ⟨c,rfl,l⟩;have o:=aq ((l.1.block _ aD).trans i);have N:Hid (am w q):=D.trans (l.1.mono D.size);have d0:ah q w.heap.size 0 (ab 0):=ax o 0;have d1:ah q w.heap.size 1 (ab 0):=ax o 1;have d2:ah q w.heap.size 2 (af ⟨#[]⟩):=ax o 2;have d3:ah q w.heap.size 3 (ae none 0 0):=ax o 3;have f0:=λu=>dg o u;have Z:dB (n+6) c=.agg #[ab c.1.1,ab c.1.2.1,af c.1.2.2,ae c.2.1.1 c.2.2.length c.2.1.2]:=rfl;rw[Z];have al:Hid (JJ B n p w (.returned (.tuple #[.agg #[ab c.1.1,ab c.1.2.1,af c.1.2.2,ae c.2.1.1 c.2.2.length c.2.1.2],ab 0])) (cZ q w.heap.size 0 (ab c.1.1) (ab c.1.2.1) (af c.1.2.2) (ae c.2.1.1 c.2.2.length c.2.1.2))):=by
    refine⟨c,by rw[P.out];rfl,dR N (av _),?_,l.2.2.1.mono λb ar=>ak (by omega),?_⟩
    ·rw[bD];exact In.off (λb ar=>bk (by omega) _ _ _ _) l.2.2.1 l.2.1
    ·rw[show LZ n p=cg n p from by simpa using T.out];exact bP _ _ _ _ _ _ l.2.2.2 an
   clear o i l N U V W X Z T;go_wp2_with fail;exact ay (v:=.tuple #[.agg #[ab c.1.1,ab c.1.2.1,af c.1.2.2,ae c.2.1.1 c.2.2.length c.2.1.2],ab 0]) (by simp[results,results37,go_sem,d0,d1,d2,d3]) rfl al
  ·have d0:ah e w.heap.size 0 (ab 0):=ax i 0;have d1:ah e w.heap.size 1 (ab 0):=ax i 1;have d2:ah e w.heap.size 2 (af ⟨#[]⟩):=ax i 2;have d3:ah e w.heap.size 3 (ae none 0 0):=ax i 3;have f0:=λu=>dg i u;have aH:(C !=0)=true:=by simpa using I
   clear i F U V W X;go_wp2_with fail;exact ay (v:=.tuple #[.agg #[ab 0,ab 0,af .empty,ae none 0 0],ab C]) (by simp[results,results37,go_sem,d0,d1,d2,d3];rfl) rfl (Gm (dR D (av _)) P.symm I)
theorem eF.ownAt{N B base k:Nat}{xs:List (Tm N)}{v:ar}{w0 wr W:ag}(a:eF N B base xs v w0 wr)(c:xs.length=k)(b:am wr W):W.ownsRow base 31 4 v k (xs.flatMap (iL N)):=by
 subst c;exact eq a.2.1 b
theorem eF.appAt{N B base k:Nat}{xs:List (Tm N)}{v:ar}{w0 wr W w4:ag}{g c:Nat}(d:eF N B base xs v w0 wr)(n:xs.length=k)(f:B<=base)(l:base<=wr.heap.size)(e:am wr W)(a:Tm N)(i:In W.heap.size W N a)(h:cv (λb=>b<B\/wr.heap.size<=b) N a)(o:w4.ownsRow base 31 4 (ae (some ⟨g,0,none⟩) (k+1) c) (k+1) (xs.flatMap (iL N)++iL N a))(m:W.grownBy w4 v.ownBlock)(j:v.ownBlock=some g\/g=W.heap.size):eF N B base (xs++ [a]) (ae (some ⟨g,0,none⟩) (k+1) c) w0 w4:=by
 subst n;exact fy.step (eA N) d f l e a i h o m j
theorem rU(a:ag)(o:Obj){g:Nat}(b:g=a.heap.size):(a.alloc o).drew.heap[g]?=some o:=by
 subst b;exact aD a o
theorem yn(a:ag)(o:Obj){g:Nat}(b:g=a.heap.size):(a.alloc o).heap[g]?=some o:=by
 subst b;exact aD a o
def PL(b:Nat)(name:ap)(a:Wd)(mv:ar):cI:=⟨b,1,[af name],[ab a.1,ab a.2,mv],111⟩
def jV(Mh:aO)(ma:au)(vs:List Wd)(a:Nat)(w:ag):Prop:=
 (ma=none/\vs=[]/\a=0)\/∃c d b,ma=some ⟨c,d,none⟩/\¬Mh c/\w.heap[c]?=some (.cells b 109 (0,0))/\vs.length<=a/\a<=maxLen/\d+a*2<=b.size/\(b.toList.drop d).take (vs.length*2)=bm vs
def kp(N:Nat)(ws:List Wd)(nm:List ap)(room:Int)(b:List Wd)(a:List (Tm N)):Prop:=
 gY ws nm N b a/\(b.flatMap (pw ws N)).Nodup/\(∀c∈a,bG N c=0/\aT N c=true)/\(a.map (sz N)).sum<=(ws.length:Int)/\(ws.length:Int)<=room/\0<=room/\room<=1000/\nm.Nodup
structure cR (base pb:Nat) (name:ap) (room:Int) (N:Nat) (s:Tm N) (ms:List (Tm N)) (xs:List (Wd×Tm N)) (nk:Nat) (M:aO) (w:ag) (ws:List Wd) (nm:List ap) (sv:Wd) (vs:List Wd) (ma:au) (mc:Nat) (Mh:aO):Prop where
 heap:dX base (PL pb name sv (ae ma vs.length mc)) room ws nm Mh w
 mail:jV Mh ma vs mc w
 has:kp N ws nm room (sv::vs++xs.map (·.1)) (s::ms++xs.map (·.2))
 len:vs.length=ms.length
 names:nm.length<=nk
 inM:∀b,Mh b->M b
 mailM:∀a,ma=some a->M a.block
theorem dX.box{base:Nat}{b:cI}{room:Int}{ws:List Wd}{nm:List ap}{M:aO}{w:ag}(e:dX base b room ws nm M w):∃tv lv mv,HB b room tv lv mv w/\∃h i,tv=ae h ws.length i:=by
 obtain⟨tv,lv,mv,f,g,_⟩:=e;refine⟨tv,lv,mv,f,?_⟩;rcases g.2 with⟨a,d⟩|⟨k,c,j,a,_⟩
 ·exact⟨none,0,by rw[a,d]⟩
 ·exact⟨_,c,a⟩
theorem PL.cells{a:Nat}{name:ap}{b:Wd}{mv:ar}{room:Int}{tv lv mp:ar}{w:ag}(d:HB (PL a name b mv) room tv lv mp w):ah w a 0 (af name)/\ah w a 5 (ab b.1)/\ah w a (5+1) (ab b.2)/\ah w a 7 mv/\(∀j,w.frozen? ⟨a,j,none⟩=false)/\a<w.heap.size:=by
 have c:w.heap[a]?=some (.cells #[af name,ab room,tv,lv,mp,ab b.1,ab b.2,mv] 111):=d.2;refine⟨?_,?_,?_,?_,λj=>?_,(aI.1 c).1⟩
 all_goals simp[World.cell?,World.frozen?,c]
def nH(N:Nat)(x:Tm N)(w:ag)(e:Ending)(w':ag):Prop:=∃y:Tm N,e=.returned (dB N y)/\Hid (am w w'/\In w'.heap.size w' N y/\cv (λq=>w.heap.size<=q) N y/\aB N y N x=true)
theorem IL(P N:Nat)(x:Tm (N+1))(v:Wd)(w:ag)(K:Hid (∀w1,am w w1->ao 99 #[.pointer (some ⟨P,1,none⟩),.agg #[ab v.1,ab v.2]] w1 λe w'=>∃y:Tm (N+1),e=.returned (.tuple #[.agg #[ab y.1.1,ab y.1.2.1,af y.1.2.2,ae y.2.1.1 y.2.2.length y.2.1.2],ab 0])/\Hid (am w1 w'/\In w'.heap.size w' (N+1) y/\cv (λq=>w1.heap.size<=q) (N+1) y/\aB (N+1) y (N+1) x=true))):ao 64 #[aH P,.agg #[ab v.1,ab v.2]] w (nH (N+1) x w):=by
 go_enter func64,ntmps64;go_wp2_with fail;have B:=aq (kF w (.cells #[ab v.1,ab v.2] 109) (.cells #[ab 0,ab 0,af ⟨#[]⟩,ae none 0 0] 31));have f:Hid (am w ((w.alloc (.cells #[ab v.1,ab v.2] 109)).alloc (.cells #[ab 0,ab 0,af ⟨#[]⟩,ae none 0 0] 31))/\((w.alloc (.cells #[ab v.1,ab v.2] 109)).alloc (.cells #[ab 0,ab 0,af ⟨#[]⟩,ae none 0 0] 31)).heap.size=w.heap.size+1+1):=⟨by go_grown,by simp⟩;generalize M:(w.alloc _).alloc _=a;rw[M]at B f;clear M;have T:a.heap.size=w.heap.size+1+1:=f.2;have p:Hid (∀w',am a w'->ah w' w.heap.size 0 (ab v.1)/\ah w' w.heap.size 1 (ab v.2)):=λw' S=>by
  have L:=(S.block w.heap.size (by omega)).trans B.1;exact⟨ax L 0,ax L 1⟩
 obtain⟨ap,au⟩:=p.out a (aA _ _);have z:Hid (am a a.drew):=(aA _ _).drew;have A:Hid (am a (a.alloc (.cells #[ab 0,ab 0,af ⟨#[]⟩,ae none 0 0] 31)).drew):=(show Below _ _ _ by go_grown);have F:Hid ((a.alloc (.cells #[ab 0,ab 0,af ⟨#[]⟩,ae none 0 0] 31)).drew.heap[a.heap.size]?=some (.cells #[ab 0,ab 0,af ⟨#[]⟩,ae none 0 0] 31)/\(a.alloc (.cells #[ab 0,ab 0,af ⟨#[]⟩,ae none 0 0] 31)).drew.heap.size=a.heap.size+1):=⟨rU a _ rfl,by simp⟩;clear T
 go_region_held3 (λw'=>ah w' w.heap.size 0 (ab v.1)/\ah w' w.heap.size 1 (ab v.2)) (first|(go_keep;done)|with_reducible exact p _ z|with_reducible exact p _ A|exact p _ h|exact E _|exact Q _ _ _ _|exact R _ _ _ _ _)
  ((first
   | (go_at_call 99;refine(K _ (f.1.trans (z.mono f.1.size))).mono ?_;rintro e w1 ⟨y,rfl,l⟩;have h:=aq (z.trans (l.1.mono z.size));have E:Hid (∀o:Obj,(w1.alloc o).cell? ⟨w.heap.size,0,none⟩=some (ab v.1)/\(w1.alloc o).cell? ⟨w.heap.size,1,none⟩=some (ab v.2)):=λo=>p _ (h.trans (aX.mono h.size));have R:Hid (∀(o:Obj)(m b c n:ar),(cZ (w1.alloc o) w1.heap.size 0 m b c n).cell? ⟨w.heap.size,0,none⟩=some (ab v.1)/\(cZ (w1.alloc o) w1.heap.size 0 m b c n).cell? ⟨w.heap.size,1,none⟩=some (ab v.2)):=λo m b c n=>by have an:=h.size;have D:=f.2;exact⟨(bE (bk (by omega) m b c n) 0).trans (E o).1,(bE (bk (by omega) m b c n) 1).trans (E o).2⟩)
   | (go_at_call 99;refine(K _ (f.1.trans (A.mono f.1.size))).mono ?_;rintro e w1 ⟨y,rfl,l⟩;have h:=aq (A.trans (l.1.mono A.size));have r:=aq ((l.1.block _ (by have:=F.2;omega)).trans F.1);have ad:ah w1 a.heap.size 0 (ab 0):=ax r 0;have ai:ah w1 a.heap.size 1 (ab 0):=ax r 1;have aj:ah w1 a.heap.size 2 (af ⟨#[]⟩):=ax r 2;have ak:ah w1 a.heap.size 3 (ae none 0 0):=ax r 3;have al:=λu=>dg r u;have Q:Hid (∀m b c n:ar,(cZ w1 a.heap.size 0 m b c n).cell? ⟨w.heap.size,0,none⟩=some (ab v.1)/\(cZ w1 a.heap.size 0 m b c n).cell? ⟨w.heap.size,1,none⟩=some (ab v.2)):=λm b c n=>⟨(bE (bk (by have:=f.2;omega) m b c n) 0).trans (p _ h).1,(bE (bk (by have:=f.2;omega) m b c n) 1).trans (p _ h).2⟩)))
 ·have D:=f.2;have i:Hid ((w1.alloc (.cells #[ab y.1.1,ab y.1.2.1,af y.1.2.2,ae y.2.1.1 y.2.2.length y.2.1.2] 31)).heap[w.heap.size+1]?=some (.cells #[ab 0,ab 0,af ⟨#[]⟩,ae none 0 0] 31)):=(aX.block _ (by have:=h.size;omega)).trans ((h.block _ (by omega)).trans B.2);have k:Hid ((w1.alloc (.cells #[ab y.1.1,ab y.1.2.1,af y.1.2.2,ae y.2.1.1 y.2.2.length y.2.1.2] 31)).heap[w1.heap.size]?=some (.cells #[ab y.1.1,ab y.1.2.1,af y.1.2.2,ae y.2.1.1 y.2.2.length y.2.1.2] 31)):=aD _ _;have j:Hid (am w (w1.alloc (.cells #[ab y.1.1,ab y.1.2.1,af y.1.2.2,ae y.2.1.1 y.2.2.length y.2.1.2] 31))/\In (w1.alloc (.cells #[ab y.1.1,ab y.1.2.1,af y.1.2.2,ae y.2.1.1 y.2.2.length y.2.1.2] 31)).heap.size (w1.alloc (.cells #[ab y.1.1,ab y.1.2.1,af y.1.2.2,ae y.2.1.1 y.2.2.length y.2.1.2] 31)) (N+1) y/\cv (λq=>w.heap.size+2<=q) (N+1) y):=⟨(f.1.trans (h.mono f.1.size)).trans (aX.mono (f.1.trans (h.mono f.1.size)).size),(l.2.1.below aX).mono (by simp),l.2.2.1.mono λq (C:a.heap.size<=q)=>by omega⟩;have s:Hid (∃d,d=(w1.alloc (.cells #[ab y.1.1,ab y.1.2.1,af y.1.2.2,ae y.2.1.1 y.2.2.length y.2.1.2] 31))):=⟨_,rfl⟩;obtain⟨d,t⟩:=s.out;rw[<-t]at i k j ⊢;clear t s D;have G:d.cell? ⟨w.heap.size+1,0,none⟩=some (ab 0):=ax i 0;have H:d.cell? ⟨w.heap.size+1,1,none⟩=some (ab 0):=ax i 1;have I:d.cell? ⟨w.heap.size+1,2,none⟩=some (af ⟨#[]⟩):=ax i 2;have J:d.cell? ⟨w.heap.size+1,3,none⟩=some (ae none 0 0):=ax i 3;have Z:=λu=>dg i u;have V:ah d w1.heap.size 0 (ab y.1.1):=ax k 0;have W:ah d w1.heap.size 1 (ab y.1.2.1):=ax k 1;have X:ah d w1.heap.size 2 (af y.1.2.2):=ax k 2;have Y:ah d w1.heap.size 3 (ae y.2.1.1 y.2.2.length y.2.1.2):=ax k 3;go_wp2_with fail;refine ay (v:=.agg #[ab y.1.1,ab y.1.2.1,af y.1.2.2,ae y.2.1.1 y.2.2.length y.2.1.2]) (by simp[results,results64,go_sem,G,H,I,J]) rfl ?_;refine⟨y,rfl,dR j.1 (by omega),?_,j.2.2.mono λq C=>by omega,l.2.2.2⟩;have e:=In.off (w':=cZ d (w.heap.size+1) 0 (ab y.1.1) (ab y.1.2.1) (af y.1.2.2) (ae y.2.1.1 y.2.2.length y.2.1.2)) (λb (O:w.heap.size+2<=b)=>bk (by omega) _ _ _ _) j.2.2 j.2.1;rw[<-bD (w:=d) (g:=w.heap.size+1) (o:=0) (ab y.1.1) (ab y.1.2.1) (af y.1.2.2) (ae y.2.1.1 y.2.2.length y.2.1.2)]at e;exact e
 ·have D:=f.2;have U:=F.2;have i:Hid ((cZ w1 a.heap.size 0 (ab y.1.1) (ab y.1.2.1) (af y.1.2.2) (ae y.2.1.1 y.2.2.length y.2.1.2)).heap[w.heap.size+1]?=some (.cells #[ab 0,ab 0,af ⟨#[]⟩,ae none 0 0] 31)):=(bk (by omega) _ _ _ _).trans ((h.block _ (by omega)).trans B.2)
  have k:Hid ((cZ w1 a.heap.size 0 (ab y.1.1) (ab y.1.2.1) (af y.1.2.2) (ae y.2.1.1 y.2.2.length y.2.1.2)).heap[a.heap.size]?=some (.cells #[ab y.1.1,ab y.1.2.1,af y.1.2.2,ae y.2.1.1 y.2.2.length y.2.1.2] 31)):=(by
   show _=_
   simp[cZ,World.setCell,bQ,r.out])
  have j:Hid (am w (cZ w1 a.heap.size 0 (ab y.1.1) (ab y.1.2.1) (af y.1.2.2) (ae y.2.1.1 y.2.2.length y.2.1.2))/\In (cZ w1 a.heap.size 0 (ab y.1.1) (ab y.1.2.1) (af y.1.2.2) (ae y.2.1.1 y.2.2.length y.2.1.2)).heap.size (cZ w1 a.heap.size 0 (ab y.1.1) (ab y.1.2.1) (af y.1.2.2) (ae y.2.1.1 y.2.2.length y.2.1.2)) (N+1) y/\cv (λq=>w.heap.size+2<=q) (N+1) y):=by
   refine⟨dR (f.1.trans (h.mono f.1.size)) (by omega),?_,l.2.2.1.mono λq C=>?_⟩
   ·rw[bD];exact In.off (λb (O:(a.alloc (.cells #[ab 0,ab 0,af ⟨#[]⟩,ae none 0 0] 31)).drew.heap.size<=b)=>bk (by omega) _ _ _ _) l.2.2.1 l.2.1
   ·have aa:(a.alloc (.cells #[ab 0,ab 0,af ⟨#[]⟩,ae none 0 0] 31)).drew.heap.size<=q:=C;omega
  have s:Hid (∃d,d=(cZ w1 a.heap.size 0 (ab y.1.1) (ab y.1.2.1) (af y.1.2.2) (ae y.2.1.1 y.2.2.length y.2.1.2))):=⟨_,rfl⟩;obtain⟨d,t⟩:=s.out;change Exit.then _ _ Exit.normal _ (cZ w1 a.heap.size 0 (ab y.1.1) (ab y.1.2.1) (af y.1.2.2) (ae y.2.1.1 y.2.2.length y.2.1.2));rw[<-t]at i k j ⊢;clear t s D U;have G:d.cell? ⟨w.heap.size+1,0,none⟩=some (ab 0):=ax i 0;have H:d.cell? ⟨w.heap.size+1,1,none⟩=some (ab 0):=ax i 1;have I:d.cell? ⟨w.heap.size+1,2,none⟩=some (af ⟨#[]⟩):=ax i 2;have J:d.cell? ⟨w.heap.size+1,3,none⟩=some (ae none 0 0):=ax i 3;have Z:=λu=>dg i u;have V:ah d a.heap.size 0 (ab y.1.1):=ax k 0;have W:ah d a.heap.size 1 (ab y.1.2.1):=ax k 1;have X:ah d a.heap.size 2 (af y.1.2.2):=ax k 2;have Y:ah d a.heap.size 3 (ae y.2.1.1 y.2.2.length y.2.1.2):=ax k 3;go_wp2_with fail;refine ay (v:=.agg #[ab y.1.1,ab y.1.2.1,af y.1.2.2,ae y.2.1.1 y.2.2.length y.2.1.2]) (by simp[results,results64,go_sem,G,H,I,J]) rfl ?_;refine⟨y,rfl,dR j.1 (by omega),?_,j.2.2.mono λq C=>by omega,l.2.2.2⟩;have e:=In.off (w':=cZ d (w.heap.size+1) 0 (ab y.1.1) (ab y.1.2.1) (af y.1.2.2) (ae y.2.1.1 y.2.2.length y.2.1.2)) (λb (O:w.heap.size+2<=b)=>bk (by omega) _ _ _ _) j.2.2 j.2.1;rw[<-bD (w:=d) (g:=w.heap.size+1) (o:=0) (ab y.1.1) (ab y.1.2.1) (af y.1.2.2) (ae y.2.1.1 y.2.2.length y.2.1.2)]at e;exact e
theorem o9{n:Nat}{x:Tm n}(a:bG n x=0):aJ ⟨n,x⟩:=aU.2 (bJ.1 a).1
section
variable {base pb:Nat} {name:ap} {room:Int} {N:Nat} {s:Tm (N+1)} {ms:List (Tm (N+1))} {xs:List (Wd×Tm (N+1))} {nk:Nat} {M:aO} {w:ag} {ws:List Wd} {nm:List ap} {sv:Wd} {vs:List Wd} {ma:au} {mc:Nat} {Mh:aO}
theorem cR.later(a:cR base pb name room (N+1) s ms xs nk M w ws nm sv vs ma mc Mh){w1:ag}(c:am w w1):cR base pb name room (N+1) s ms xs nk M w1 ws nm sv vs ma mc Mh:=by
 refine⟨(a.heap.later c).mono λb c=>c.1,?_,a.has,a.len,a.names,a.inM,a.mailM⟩;rcases a.mail with g|⟨e,k,f,h,i,d,j⟩
 ·exact aj g
 ·exact ak ⟨e,k,f,h,i,(c.block e (aI.1 d).1).trans d,j⟩
theorem cR.read(a:cR base pb name room (N+1) s ms xs nk M w ws nm sv vs ma mc Mh)(k:nk<=50000){i:Nat}{v:Wd}{x:Tm (N+1)}(e:(sv::vs++xs.map (·.1))[i]?=some v)(c:(s::ms++xs.map (·.2))[i]?=some x):ao 64 #[aH pb,.agg #[ab v.1,ab v.2]] w (nH (N+1) x w):=by
 obtain⟨f,l,g,m,n,o,p,q⟩:=a.has;have b:=g x (aL c);have j:=a.names;exact IL pb N x v w λh d=>KA (N+1) x v base (PL pb name sv (ae ma vs.length mc)) room ws nm Mh h ((a.later d).heap) (f.2 i v x e c) (o9 b.1) b.2 (by omega) (by omega)
end
theorem EZ(e N:Nat)(x:Tm (N+1))(v:Wd)(w:ag)(y:e<w.heap.size)(m:ah w e 5 (ab v.1))(n:ah w e (5+1) (ab v.2))(l:Hid (∀w1,am w w1->ao 64 #[aH e,.agg #[ab v.1,ab v.2]] w1 (nH (N+1) x w1))):ao 34 #[aH e] w (nH (N+1) x w):=by
 go_enter func34,ntmps34;go_wp2_with fail;refine(l _ aX).mono ?_;rintro f w1 ⟨a,rfl,d⟩;rw[show dB (N+1) a=.agg #[ab a.1.1,ab a.1.2.1,af a.1.2.2,ae a.2.1.1 a.2.2.length a.2.1.2]from rfl];have c:=aq (rD w _ _ _ _ _ d.1);have k:Hid (am w w1):=aX.trans (d.1.mono (by simp));have q:ah w1 w.heap.size 0 (ab 0):=ax c 0;have r:ah w1 w.heap.size 1 (ab 0):=ax c 1;have s:ah w1 w.heap.size 2 (af ⟨#[]⟩):=ax c 2;have t:ah w1 w.heap.size 3 (ae none 0 0):=ax c 3;have z:=λp=>dg c p;clear m n;go_wp2_with fail;refine ay (v:=.agg #[ab a.1.1,ab a.1.2.1,af a.1.2.2,ae a.2.1.1 a.2.2.length a.2.1.2]) (by simp[results,results34,go_sem,q,r,s,t]) rfl ?_;have i:cv (λh=>w.heap.size+1<=h) (N+1) a:=d.2.2.1.mono λh j=>by simpa using j
 refine⟨a,rfl,dR k (av _),?_,i.mono λh j=>by omega,d.2.2.2⟩;have f:=In.off (w':=cZ w1 w.heap.size 0 (ab a.1.1) (ab a.1.2.1) (af a.1.2.2) (ae a.2.1.1 a.2.2.length a.2.1.2)) (λb (u:w.heap.size+1<=b)=>bk (by omega) _ _ _ _) i d.2.1;rw[<-bD (w:=w1) (g:=w.heap.size) (o:=0) (ab a.1.1) (ab a.1.2.1) (af a.1.2.2) (ae a.2.1.1 a.2.2.length a.2.1.2)]at f;exact f
theorem jV.word{Mh:aO}{ma:au}{vs:List Wd}{n:Nat}{w:ag}(b:jV Mh ma vs n w){i:Nat}{v:Wd}(c:vs[i]?=some v):∃g a,ma=some ⟨g,a,none⟩/\g<w.heap.size/\ah w g (a+i*2) (ab v.1)/\ah w g (a+i*2+1) (ab v.2):=by
 rcases b with⟨_,h,_⟩|⟨g,a,p,j,_,e,q,_,r,m⟩
 ·rw[h]at c;simp at c
 ·have s:=(aY.1 c).1;have f:∀(l:List Wd)(i:Nat)(v:Wd),l[i]?=some v->(bm l)[i*2]?=some (ab v.1)/\(bm l)[i*2+1]?=some (ab v.2):=by
   intro l
   induction l with
   | nil=>intro i v b;simp at b
   | cons o l ih=>
    intro i v b;cases i with
    | zero=>simp at b;subst b;simp[bm,qq]
    | succ i=>
     have:=ih i v (by simpa using b);simp only[bm,bM,qq]at this ⊢;rw[show (i+1)*2=i*2+2 by omega,show i*2+2+1=(i*2+1)+2 by omega];simpa using this
  have d:∀k,k<vs.length*2->w.cell? ⟨g,a+k,none⟩=(bm vs)[k]? :=λk d=>by
   rw[<-m,jB,if_pos d,lf,np];simp[World.cell?,e]
  refine⟨g,a,j,(aI.1 e).1,?_,?_⟩
  ·rw[d (i*2) (by omega)];exact(f vs i v c).1
  ·rw[show a+i*2+1=a+(i*2+1) by omega,d (i*2+1) (by omega)];exact(f vs i v c).2
def Ft(N:Nat)(ms:List (Tm N))(w:ag)(e:Ending)(w':ag):Prop:=∃(ys:List (Tm N))(L:Nat)(a:au)(c:Nat),e=.returned (ae a L c)/\Hid (ys.length=L/\eF N 0 w.heap.size ys (ae a L c) w w'/\aG (λa b=>aB N a N b) ys ms=true)
theorem Ic(n N:Nat)(ms:List (Tm (N+1)))(vs:List Wd)(L:Nat)(ma:au)(aa:Nat)(w:ag)(T:Hid (vs.length=L))(D:Hid (ms.length=L))(aj:L<=1000)(_hpw:n<w.heap.size)(ad:ah w n 7 (ae ma L aa))(R:Hid (∀w1,am w w1->∀(i:Nat)(v:Wd),vs[i]?=some v->∃g s,ma=some ⟨g,s,none⟩/\g<w.heap.size/\ah w1 g (s+i*2) (ab v.1)/\ah w1 g (s+i*2+1) (ab v.2)))(O:Hid (∀w1,am w w1->∀(i:Nat)(v:Wd)(x:Tm (N+1)),vs[i]?=some v->ms[i]?=some x->ao 64 #[aH n,.agg #[ab v.1,ab v.2]] w1 (nH (N+1) x w1))):ao 35 #[aH n] w (Ft (N+1) ms w):=by
 obtain⟨Z,G,J,K,M⟩:=bU gJ;have o:=aq (⟨G,J,K,M⟩:_/\_/\_/\_);clear G J K M;go_enter func35,ntmps35;go_wp2_with fail;go_loopw [3,11] (λv i wr=>∃(k:Nat)(h:au)(c:Nat)(j:List (Tm (N+1))),k<=L/\i=ab k/\v=ae h k c/\Hid (j.length=k/\eF (N+1) 0 w.heap.size j (ae h k c) w wr/\aG (λh b=>aB (N+1) h (N+1) b) j (ms.take k)=true)) (λ_ i _=>L-(intOf i).toNat)
 case atStart=>exact⟨0,none,0,[],by omega,rfl,rfl,rfl,fy.nil _,by simp[aG]⟩
 case round=>
  obtain⟨k,h,c,j,ap,rfl,rfl,e⟩:=hrel;have l:Hid (am w wr):=e.2.1.1;by_cases H:k<L;rotate_left
  ·obtain rfl:k=L:=by omega
   go_wp2_with fail
   go_ret
   refine⟨j,k,h,c,rfl,e.1,e.2.1,?_⟩;have m:=e.2.2;rw[bA (by rw[D.out];omega)]at m;exact m
  ·obtain⟨v,z⟩:∃v,vs[k]?=some v:=⟨vs[k]'(by rw[T.out];exact H),aN _⟩;obtain⟨x,A⟩:∃x,ms[k]?=some x:=⟨ms[k]'(by rw[D.out];exact H),aN _⟩;have S:=aq A;have P:Hid (∀w1,am w w1->ao 64 #[aH n,.agg #[ab v.1,ab v.2]] w1 (nH (N+1) x w1)):=λw1 y=>O w1 y k v x z A;obtain⟨g,s,rfl,al,d0,d1⟩:=R wr l k v z;clear z A;have ar:(0:Int)<=(k:Int):=by omega
   have av:(k:Int)<(L:Int):=by omega
   have an:g<wr.heap.size:=by have:=l.size;omega
   go_wp2_with fail;refine(P _ (l.trans (aX.mono l.size))).mono ?_;rintro ai d ⟨a,rfl,p⟩;rw[show dB (N+1) a=.agg #[ab a.1.1,ab a.1.2.1,af a.1.2.2,ae a.2.1.1 a.2.2.length a.2.1.2]from rfl];have u:Hid (am wr d):=aX.trans (p.1.mono (by simp));have f:Hid (am wr (d.alloc (.cells #[ab a.1.1,ab a.1.2.1,af a.1.2.2,ae a.2.1.1 a.2.2.length a.2.1.2] 31))/\(d.alloc (.cells #[ab a.1.1,ab a.1.2.1,af a.1.2.2,ae a.2.1.1 a.2.2.length a.2.1.2] 31)).heap.size=d.heap.size+1/\(d.alloc (.cells #[ab a.1.1,ab a.1.2.1,af a.1.2.2,ae a.2.1.1 a.2.2.length a.2.1.2] 31)).heap[d.heap.size]?=some (.cells #[ab a.1.1,ab a.1.2.1,af a.1.2.2,ae a.2.1.1 a.2.2.length a.2.1.2] 31)/\In (d.alloc (.cells #[ab a.1.1,ab a.1.2.1,af a.1.2.2,ae a.2.1.1 a.2.2.length a.2.1.2] 31)).heap.size (d.alloc (.cells #[ab a.1.1,ab a.1.2.1,af a.1.2.2,ae a.2.1.1 a.2.2.length a.2.1.2] 31)) (N+1) a/\cv (λb=>b<0\/wr.heap.size<=b) (N+1) a):=by
    have m:am d (d.alloc (.cells #[ab a.1.1,ab a.1.2.1,af a.1.2.2,ae a.2.1.1 a.2.2.length a.2.1.2] 31)):=aX;refine⟨u.trans (m.mono u.size),by simp,aD _ _,(p.2.1.below m).mono m.size,p.2.2.1.mono λb y=>ak ?_⟩;have:wr.heap.size+1<=b:=by simpa using y
    omega
   have B:=λ(r q:Nat)(w4:ag) Y V U=>aq (e.2.1.appAt (W:=(d.alloc (.cells #[ab a.1.1,ab a.1.2.1,af a.1.2.2,ae a.2.1.1 a.2.2.length a.2.1.2] 31))) (w4:=w4) (g:=r) (c:=q) e.1 (aM _) l.size f.1 a f.2.2.2.1 f.2.2.2.2 Y V U);have C:=aq (e.2.1.ownAt e.1 f.1);have aw:w.heap.size<=d.heap.size:=by have:=l.size;have:=u.size;omega
   clear d0 d1;go_wp2_with (at_builtin;refine wpList_append_lies _ rfl _ _ 29 rfl w.heap.size 31 Z _ 4 56 underlying29 o.1 o.2.1 o.2.2.1 o.2.2.2 rfl (by decide) (ae h k c) k (j.flatMap (iL (N+1))) (by simp[Act.eval]) C ⟨d.heap.size,0,none⟩ 1 1 (iL (N+1) a) (by simp[Act.eval]) rfl (World.news_of_block (cs:= #[ab a.1.1,ab a.1.2.1,af a.1.2.2,ae a.2.1.1 a.2.2.length a.2.1.2]) (t:=31) (fr:=(0,0)) f.2.2.1) (uM _ _) (by decide) (by unfold maxLen;omega) (by omega) (by have:=f.2.1;omega) (d.heap.size+1) f.2.1 ?_;intro r q w4 I F E X;have Q:=B r q w4 I F (by rw[f.out.2.1];exact E);clear I F E X B C);go_roundw
   case rel=>
    refine⟨k+1,some ⟨r,0,none⟩,q,j++ [a],by omega,by go_num,rfl,by rw[bt,e.out.1];rfl,Q,?_⟩;rw[dA,S.out];exact jq _ _ _ _ _ e.2.2 p.2.2.2
   case measure=>simp[intOf];omega
section
variable {base pb:Nat} {name:ap} {room:Int} {N:Nat} {s:Tm (N+1)} {ms:List (Tm (N+1))} {xs:List (Wd×Tm (N+1))} {nk:Nat} {M:aO} {w:ag} {ws:List Wd} {nm:List ap} {sv:Wd} {vs:List Wd} {ma:au} {mc:Nat} {Mh:aO}
theorem cR.state(a:cR base pb name room (N+1) s ms xs nk M w ws nm sv vs ma mc Mh)(f:nk<=50000):ao 34 #[aH pb] w (nH (N+1) s w):=by
 obtain⟨k,h,j,d,_⟩:=a.heap.box;obtain⟨_,b,c,_,_,g⟩:=PL.cells d;exact EZ pb N s sv w g b c λl e=>(a.later e).read f (i:=0) (by simp) (by simp)
theorem cR.mails(a:cR base pb name room (N+1) s ms xs nk M w ws nm sv vs ma mc Mh)(n:nk<=50000)(u:ms.length<=1000):ao 35 #[aH pb] w (Ft (N+1) ms w):=by
 obtain⟨z,v,y,k,_⟩:=a.heap.box;obtain⟨_,_,_,e,_,o⟩:=PL.cells k;have m:=a.len;refine Ic pb N ms vs vs.length ma mc w rfl m.symm (by omega) o e (λt b i r c=>?_) (λt b i r x c p=>?_)
 ·obtain⟨j,q,f,d,g,h⟩:=a.mail.word c;exact⟨j,q,f,d,(aw b _ _ d).trans g,(aw b _ _ d).trans h⟩
 ·have l:=(aY.1 c).1;exact(a.later b).read n (i:=i+1) (by rw[eR,dt,dw l];exact c) (by rw[eR,dt,dw (by omega)];exact p)
end
theorem xz{base:Nat}{v:ar}{n m xc:Nat}{xs:List ar}{ps:List Wd}{xa:au}{w:ag}(ty:TypeId)(f:w.ownsRow base 109 2 v n xs)(A:fu w ps xa)(j:ps.length=m)(G:n+m<=200000)(x:base<=w.heap.size):∃a d w',(Builtin.append_ #[100,100] ty #[v,ae xa m xc]).run Tryz.prog w=.ok (ae a (n+m) d) w'/\w'.ownsRow base 109 2 (ae a (n+m) d) (n+m) (xs++bm ps)/\w.grownBy w' v.ownBlock/\((Value.slice a (n+m) d).ownBlock=v.ownBlock\/(Value.slice a (n+m) d).ownBlock=some w.heap.size):=by
 obtain⟨l,i,B,C,D⟩:=bU lJ;have q:∀{w':ag}{g:ar}{k:Nat}{F:List ar},w'.ownsRow base 109 2 g k F->∃o c,g=ae o k c:=λe=>by
  rcases e.2 with⟨rfl,rfl⟩|⟨r,cap,p,rfl,_⟩
  ·exact⟨none,0,rfl⟩
  ·exact⟨_,cap,rfl⟩
 rcases A with rfl|⟨ad,rfl,y⟩
 ·obtain rfl:m=0:=j.symm;obtain⟨b,cap,E,z⟩:∃b cap,v=ae b n cap/\n<=cap:=by
   rcases f.2 with⟨rfl,rfl⟩|⟨r,cap,p,rfl,_,_,e,_⟩
   ·exact⟨none,0,rfl,av _⟩
   ·exact⟨_,cap,rfl,e⟩
  subst E;exact⟨b,cap,w,ol w _ _ ty _ _ l underlying100 underlying100 i b xa n cap xc z,by simpa [bm]using f,gV _ _,aj rfl⟩
 ·obtain⟨g,w',s,h,t,_,u⟩:=run_append_own_at (P:=Tryz.prog) w base 100 ty 109 l _ 2 16 underlying100 i B C D rfl (by decide) _ n xs f ad m xc (bm ps) (by rw[cM,j]) y (qY _) (by unfold maxLen;omega) (by omega) x;obtain⟨a,d,rfl⟩:=q h;exact⟨a,d,w',s,h,t,u⟩
theorem wP{w:ag}{d:Array Oper}{o:Oper}{a:Act}{K:Act->ag->Prop}{Q:Exit->Act->ag->Prop}{E:Prop}(k:o.guard=none)(s x:Operand)(p:o.op=.call {callee:=.builtin .append,args:= #[s,x],argTypes:= #[100,100]}){base:Nat}{v:ar}{n m xc:Nat}{xs:List ar}{ps:List Wd}{xa:au}(t:a.eval s=v)(z:a.eval x=ae xa m xc)(q:w.ownsRow base 109 2 v n xs)(u:fu w ps xa)(l:ps.length=m)(h:n+m<=200000)(j:base<=w.heap.size)(i:∀b c w',w'.ownsRow base 109 2 (ae b (n+m) c) (n+m) (xs++bm ps)->w.grownBy w' v.ownBlock->((Value.slice b (n+m) c).ownBlock=v.ownBlock\/(Value.slice b (n+m) c).ownBlock=some w.heap.size)->K (a.put o.dst (ae b (n+m) c)) w'):if Region.wanted o (yielded d a.tmps)=true then Oper.wp Tryz.prog o a w K Q else E:=by
 have y:Region.wanted o (yielded d a.tmps)=true:=by simp[Region.wanted,k]
 rw[if_pos y];obtain⟨b,c,w',r,e,f,g⟩:=xz (xc:=xc) o.type q u l h j;unfold Oper.wp execOp;simp only[p,resolve,invoke,builtin,Sem.run_bind,Sem.run_pure,nC,nu,aV,cC,t,z,r];exact i _ _ _ e f g
theorem dX.turn{base d:Nat}{name:ap}{g h:Wd}{mv j:ar}{room:Int}{ws:List Wd}{nm:List ap}{M:aO}{w w':ag}(l:dX base (PL d name g mv) room ws nm M w)(k:b9 (λb=>b=d) w w')(q:∀tv lv mp:ar,w.heap[d]?=some (.cells #[af name,ab room,tv,lv,mp,ab g.1,ab g.2,mv] 111)->w'.heap[d]?=some (.cells #[af name,ab room,tv,lv,mp,ab h.1,ab h.2,j] 111)):dX base (PL d name h j) room ws nm M w':=by
 obtain⟨tv,lv,mp,e,i,f,m,n,o,p⟩:=l;refine⟨tv,lv,mp,⟨⟨rfl,ak rfl⟩,q tv lv mp e.2⟩,ey i k (λb a c=>?_),f.kept k (λb a c=>?_) (λb a c=>?_),m,n,o,p⟩
 ·subst c;exact nU i e (by decide) a
 ·subst c;exact nU f.1 e (by decide) a
 ·subst c;exact uF f e a
theorem jV.words{Mh:aO}{ma:au}{vs:List Wd}{k:Nat}{w:ag}(j:jV Mh ma vs k w):fu w vs ma:=by
 rcases j with⟨_,b,_⟩|⟨c,d,l,g,_,h,m,_,n,i⟩
 ·exact aj b
 ·refine ak ⟨⟨c,d,none⟩,g,λf p e=>?_⟩;have o:=(aY.1 e).1;have a:=e;rw[<-i,jB]at a;split at a
  ·rw[lf,np]at a;have b:(⟨c,d,none⟩:Addr).add f=⟨c,d+f,none⟩:=by unfold Addr.add;split<;>simp[*]
   rw[b];simp[World.cell?,h,a]
  ·cases a
theorem kp.tidied{N:Nat}{ws:List Wd}{nm:List ap}{room:Int}{b:List Wd}{a:List (Tm N)}(p:kp N ws nm room b a):kp N (j8 ws N b).2.1 nm room (j8 ws N b).1 a/\((j8 ws N b).2.1.length:Int)=(a.map (sz N)).sum/\(j8 ws N b).1.length=b.length:=by
 obtain⟨j,v,k,z,A,w,y,l⟩:=p;obtain⟨m,n,o⟩:=EJ l j v;have h:∀c∈a,aJ ⟨N,c⟩:=λc f=>o9 (k c f).1;have i:=oG (λx ws nm e=>ii N x ws nm e) a [] nm h;have s:=BT N a [] nm;have q:=vL (λx ws nm e=>zX N x ws nm e) a [] nm h;have g:=ij (bj N) a [] nm;rw[o]at i;rw[m,n];simp only[iP]at s;refine⟨⟨⟨g,λu C c t f=>?_⟩,q.1,k,by omega,by omega,w,y,l⟩,by omega,by rw[g,j.1]⟩;obtain⟨B,d,r⟩:=i u c f;rw[t]at d;injection d with d;rw[d];exact r
theorem nd(w:ag){g q:Nat}(b:g≠q)(o:Nat)(v:ar)(j:Nat):(w.setCell ⟨q,o,none⟩ v).cell? ⟨g,j,none⟩=w.cell? ⟨g,j,none⟩:=by
 refine bE ?_ j;have c:¬q=g:=λa=>b a.symm;simp[World.setCell,bQ,c]
def vU(g L:Nat):au:=if L=0 then some ⟨g,0,none⟩else some ⟨g,2,none⟩
def Da(w:ag)(a:Nat)(b:Wd)(mv:ar):ag:=((w.setCell ⟨a,5,none⟩ (ab b.1)).setCell ⟨a,5+1,none⟩ (ab b.2)).setCell ⟨a,7,none⟩ mv
theorem I9(d:Nat)(f:Wd)(vs:List Wd)(L:Nat)(ma:au)(t:Nat)(w:ag)(Fin:Nat->Wd->ag->ag->Prop)(Q:Hid (vs.length=L))(T:L<=1000)(q:Hid (∀w1,am w w1->ah w1 d 5 (ab f.1)/\ah w1 d (5+1) (ab f.2)/\ah w1 d 7 (ae ma L t)))(M:Hid (∀w1,am w w1->fu w1 vs ma))(G:Hid (∀w1,am w w1->∀(a:au)(c:Nat),w1.ownsRow w.heap.size 109 2 (ae a (1+L) c) (1+L) (bm (f::vs))->ao 44 #[.pointer (some ⟨d,1,none⟩),ae a (1+L) c] w1 λe w'=>∃(g:Nat)(h:Wd),e=.returned (.tuple #[ae (some ⟨g,0,none⟩) (1+L) (1+L),ab 0])/\Hid ((ah w' g 0 (ab h.1)/\ah w' g 1 (ab h.2))/\g≠d/\(∃B C D,ah w' d 5 B/\ah w' d (5+1) C/\ah w' d 7 D)/\(∀j,w'.frozen? ⟨d,j,none⟩=false)/\Fin g h w1 w'))):ao 23 #[aH d] w λe w'=>e=.returned (.tuple #[])/\∃(g:Nat)(h:Wd)(w1 w2:ag),w'=(Da w2 d h (ae (vU g L) L L)).drew/\Hid (am w w1/\Fin g h w1 w2):=by
 obtain⟨N,O,P⟩:=q.out w (aA _ _);have H:Hid (am w w.drew):=(aA _ _).drew;have k:Hid (am w (w.alloc (.cells #[ab f.1,ab f.2] 109)).drew/\(w.alloc (.cells #[ab f.1,ab f.2] 109)).drew.ownsRow w.heap.size 109 2 (ae (some ⟨w.heap.size,0,none⟩) 1 1) 1 (qq f)):=by
  refine⟨by go_grown,rfl,ak ⟨w.heap.size,1, #[ab f.1,ab f.2],rfl,av _,rU w _ rfl,av _,by unfold maxLen;omega,rfl,rfl⟩⟩
 go_enter func23,ntmps23;go_wp2_with fail
 go_region_held3 (λw'=>ah w' d 5 (ab f.1)/\ah w' d (5+1) (ab f.2)/\ah w' d 7 (ae ma L t)) (first|(go_keep;done)|with_reducible exact q _ H|with_reducible exact q _ k.1|exact q _ r)
  ((refine wP rfl _ _ rfl (base:=w.heap.size) (v:=ae (some ⟨w.heap.size,0,none⟩) 1 1) (n:=1) (m:=L) (xc:=t) (xs:=qq f) (ps:=vs) (xa:=ma) (by simp[Act.eval]) (by simp[Act.eval]) k.2 (M _ k.1) Q (by omega) (by have:=k.1.size;exact this) ?_;intro u x w2 A o R;have r:Hid (am w w2):=(k.1.trans ⟨o.os,o.tape,o.output,o.size,λb S=>o.block b (aW S k.1.size) (λe=>by simp[Value.ownBlock]at e;omega)⟩);have K:=aq (show w2.ownsRow w.heap.size 109 2 (ae u (1+L) x) (1+L) (bm (f::vs))from A);clear A o R))
 have F:=aq (G w2 r u x K);clear N O P;go_wp2_with fail;refine F.mono ?_;rintro e i ⟨g,h,rfl,E⟩;obtain⟨⟨y,z⟩,l,⟨B,C,D,d5,d6,d7⟩,U,s⟩:=E;replace s:=aq s;have W:(0:Int)<1+(L:Int):=by omega
 have X:(1:Int)<=1+(L:Int):=by omega
 have V:d≠g:=λe=>l e.symm;have I:Hid (∀a b:ar,((i.setCell ⟨d,5,none⟩ a).setCell ⟨d,5+1,none⟩ b).cell? ⟨g,0,none⟩=some (ab h.1)/\((i.setCell ⟨d,5,none⟩ a).setCell ⟨d,5+1,none⟩ b).cell? ⟨g,1,none⟩=some (ab h.2)):=λa b=>by
  have p:∀j,((i.setCell ⟨d,5,none⟩ a).setCell ⟨d,5+1,none⟩ b).cell? ⟨g,j,none⟩=i.cell? ⟨g,j,none⟩:=λj=>(nd _ l _ _ j).trans (nd _ l _ _ j);exact⟨(p _).trans y,(p _).trans z⟩
 have J:Hid (∀a b c:ar,(((i.setCell ⟨d,5,none⟩ a).setCell ⟨d,5+1,none⟩ b).setCell ⟨d,7,none⟩ c).cell? ⟨g,0,none⟩=some (ab h.1)/\(((i.setCell ⟨d,5,none⟩ a).setCell ⟨d,5+1,none⟩ b).setCell ⟨d,7,none⟩ c).cell? ⟨g,1,none⟩=some (ab h.2)):=λa b c=>by
  have p:∀j,(((i.setCell ⟨d,5,none⟩ a).setCell ⟨d,5+1,none⟩ b).setCell ⟨d,7,none⟩ c).cell? ⟨g,j,none⟩=i.cell? ⟨g,j,none⟩:=λj=>(nd _ l _ _ j).trans ((nd _ l _ _ j).trans (nd _ l _ _ j));exact⟨(p _).trans y,(p _).trans z⟩
 go_wp2_with fail;go_region_held3 (λw'=>ah w' g 0 (ab h.1)/\ah w' g 1 (ab h.2)) (first|(go_keep;done)|exact I _ _|exact J _ _ _) (fail);exact dG (v:=.tuple #[]) (by simp[results]) rfl ⟨rfl,g,h,w2,i,rfl,r,s⟩
theorem kp.front{N:Nat}{ws:List Wd}{nm:List ap}{room:Int}{g t:List Wd}{e f:List (Tm N)}(m:kp N ws nm room (g++t) (e++f))(n:g.length=e.length):kp N ws nm room g e:=by
 obtain⟨i,d,j,k,p,q,r,s⟩:=m;refine⟨⟨n,λo u b h c=>i.2 o u b ?_ ?_⟩,?_,λb c=>j b (List.mem_append_left _ c),?_,p,q,r,s⟩
 ·rw[dw (aY.1 h).1];exact h
 ·rw[dw (aY.1 c).1];exact c
 ·rw[ld]at d;exact(fH.1 d).1
 ·rw[gQ,List.sum_append]at k;have w:(0:Int)<=(f.map (sz N)).sum:=by
   clear i d k
   induction f with
   | nil=>simp
   | cons b l ih=>
    have x:=ih λv a=>j v (by simp only[cY,cU]at a ⊢;rcases a with a|a<;>simp[a]);have y:=(fl N b).1;simp only[aV,bO];omega
  omega
theorem Gk{N:Nat}:(l:List (Tm N))->(l.map λy=>1+sz N y).sum=l.length+(l.map (sz N)).sum
 | []=>by simp
 | y::l=>by
  have a:=Gk l;simp only[aV,bO,bu,a];omega
theorem yr{N:Nat}:(l:List (Tm N))->(∀y∈l,aJ ⟨N,y⟩)->((l.flatMap λy=>aC N y).length:Int)<=(l.map λy=>1+sz N y).sum
 | [],_=>by simp
 | y::l,h=>by
  have c:=yr l λb a=>h b (by simp[a]);have d:=vZ N y (h y (by simp));simp only[bM,bt,aV,bO];omega
theorem kp.roots{N:Nat}{ws:List Wd}{nm:List ap}{room:Int}{d:List Wd}{a:List (Tm N)}(h:kp N ws nm room d a)(i:d.length<=1000):Fu ws nm N d a:=by
 obtain⟨f,m,g,n,o,p,q,r⟩:=h;have e:∀b∈a,aJ ⟨N,b⟩:=λb c=>o9 (g b c).1;have j:=Gk a;have k:=yr a e;have l:=f.1;exact⟨f,e,λb c=>(g b c).2,by omega,by omega,i⟩
theorem Ey{base n c:Nat}{a:au}{vs:List Wd}{w:ag}(e:w.ownsRow base 109 2 (ae a n c) n (bm vs))(s:0<n):e9 w vs a/\∀b o,a=some ⟨b,o,none⟩->b<w.heap.size:=by
 rcases e.2 with⟨d,q⟩|⟨h,cap,p,d,t,i,_⟩
 ·omega
 ·injection d with f r g;subst f g;have j:=(aI.1 i).1;refine⟨ak ⟨h,0,rfl,j,λl m k=>?_⟩,λb o d=>?_⟩
  ·have:=ju e l m k;rw[cP];exact this
  ·injection d with d;injection d with d;omega
section
variable {base pb:Nat} {name:ap} {room:Int} {N:Nat} {s:Tm (N+1)} {ms:List (Tm (N+1))} {xs:List (Wd×Tm (N+1))} {nk:Nat} {M:aO} {w:ag} {ws:List Wd} {nm:List ap} {sv:Wd} {vs:List Wd} {ma:au} {mc:Nat} {Mh:aO}
theorem cR.front(a:cR base pb name room (N+1) s ms xs nk M w ws nm sv vs ma mc Mh):kp (N+1) ws nm room (sv::vs) (s::ms):=
 kp.front a.has (by simp[a.len])
theorem Fh{w:ag}{pb:Nat}{c0 a b c d e f g:ar}{t:TypeId}(sv:Wd)(mv:ar)(h:w.heap[pb]?=some (.cells #[c0,a,b,c,d,e,f,g] t)):(Da w pb sv mv).heap[pb]?=some (.cells #[c0,a,b,c,d,ab sv.1,ab sv.2,mv] t):=by
 unfold Da World.setCell;simp[bQ,h]
theorem Jo(w:ag)(pb:Nat)(sv:Wd)(mv:ar):b9 (λb=>b=pb) w (Da w pb sv mv).drew:=by
 have c:=bC w pb 5 (ab sv.1);have d:=bC (w.setCell ⟨pb,5,none⟩ (ab sv.1)) pb (5+1) (ab sv.2);have e:=bC ((w.setCell ⟨pb,5,none⟩ (ab sv.1)).setCell ⟨pb,5+1,none⟩ (ab sv.2)) pb 7 mv;have a:=(c.trans d λ_ _ k=>k).trans e λ_ _ k=>k;exact⟨a.os,a.tape,a.output,a.size,a.block⟩
def MD(base pb:Nat)(name:ap)(room:Int)(N:Nat)(s:Tm N)(ms:List (Tm N))(nk:Nat)(M:aO)(nm:List ap)(w:ag)(e:Ending)(w':ag):Prop:=
 e=.returned (.tuple #[])/\∃c g a f d,cR base pb name room N s ms [] nk (λb=>M b\/w.heap.size<=b) w' c nm g a f a.length d/\Hid (b9 M w w'/\(c.length:Int)=((s::ms).map (sz N)).sum)
theorem cR.tidy(e:cR base pb name room (N+1) s ms xs nk M w ws nm sv vs ma mc Mh)(aG:nk<=50000)(aA:ms.length<=999)(aB:base<=w.heap.size):ao 23 #[aH pb] w (MD base pb name room (N+1) s ms nk M nm w):=by
 have C:=e.front;have aE:=e.len;have ah:=e.names;have am:=C.roots (by simp only[bu];omega);obtain⟨L,ap,v⟩:=C.tidied;obtain⟨q,j,B⟩:∃q j,(j8 ws (N+1) (sv::vs)).1=q::j:=by
  cases u:(j8 ws (N+1) (sv::vs)).1 with
  | nil=>rw[u]at v;simp at v
  | cons n l=>exact⟨n,l,rfl⟩
 rw[B]at L v;simp only[bu]at v;have I:j.length=vs.length:=by omega
 obtain⟨_,_,_,_,aK,_,aL,_⟩:=C;refine(I9 pb sv vs vs.length ma mc w (λa m g r=>m=q/\zg base (PL pb name sv (ae ma vs.length mc)) room (j8 ws (N+1) (sv::vs)) nm Mh a g r) rfl (by omega) ?_ ?_ ?_).mono ?_
 ·intro g f;obtain⟨R,P,ar,z,_⟩:=(e.later f).heap.box;obtain⟨_,U,V,W,_⟩:=PL.cells z;exact⟨U,V,W⟩
 ·intro g f;exact(e.later f).mail.words
 ·intro g f n c ai;have an:=f.size;obtain⟨ad,ag⟩:=Ey ai (by omega);have af:(sv::vs).length=1+vs.length:=by simp only[bu];omega
  have t:=zU (N+1) (s::ms) (sv::vs) n c base (PL pb name sv (ae ma vs.length mc)) room ws nm Mh g (e.later f).heap am ad ag (by omega) (by omega) (by omega);rw[af]at t;refine t.mono ?_;rintro d r ⟨a,rfl,G⟩;have T:=G.out;obtain⟨E,Q,F,av,aw,x⟩:=T;obtain⟨R,P,ar,z,_⟩:=E.box;obtain⟨_,d5,d6,d7,d8,d9⟩:=PL.cells z;obtain⟨ax,aq,au,A,_⟩:=(e.later f).heap.box;have al:pb<g.heap.size:=(PL.cells A).2.2.2.2.2;refine⟨a,q,rfl,⟨?_,by omega,⟨_,_,_,d5,d6,d7⟩,d8,rfl,G⟩⟩;rw[B]at F;rcases F with d|⟨b,o,d,aC,aa⟩
  ·cases d
  ·injection d with d;injection d with k p;subst k p;have:=aa 0 q rfl;simpa using this
 ·rintro d aM ⟨rfl,a,m,g,r,rfl,S⟩;obtain⟨f,rfl,E,Q,F,av,aw,len,x⟩:=S;have an:=f.size;obtain⟨ax,aq,au,A,_⟩:=(e.later f).heap.box;have al:pb<g.heap.size:=(PL.cells A).2.2.2.2.2;have Y:Mh pb:=by
   obtain⟨_,_,_,_,_,_,i,_⟩:=e.heap;exact i
  have D:=Jo r pb m (ae (vU a vs.length) vs.length vs.length);rw[B]at x;have ab:¬a=pb:=by omega
  refine⟨rfl,(j8 ws (N+1) (sv::vs)).2.1,m,j,vU a vs.length,λb=>(Mh b\/g.heap.size<=b)/\b≠a,⟨?_,?_,?_,by omega,ah,?_,?_⟩,?_⟩
  ·rw[I];exact E.turn D λR P mp t=>Fh m _ t
  ·rw[I];rcases x.2 with⟨d,ay⟩|⟨az,cap,y,d,_,u,aD,aF,aJ,O⟩
   ·cases d
   ·injection d with k p X;injection k with k;injection k with k;subst k X;have J:(Da r pb m (ae (vU a vs.length) vs.length vs.length)).drew.heap[a]?=some (.cells y 109 (0,0)):=(D.block a (aI.1 u).1 ab).trans u;have K:=x.1;rw[cM]at K;simp only[bu]at K;refine ak ?_;by_cases H:vs.length=0
    ·refine⟨a,0,y,by simp[vU,H],by simp,J,by omega,by unfold maxLen;omega,by omega,?_⟩;have:j=[]:=List.length_eq_zero_iff.1 (by omega);simp[this,bm]
    ·refine⟨a,2,y,by simp[vU,H],by simp,J,by omega,by omega,by omega,?_⟩;have d:len*2=2+j.length*2:=by omega
     rw[d]at O;have p:=congrArg (List.drop 2) O;rw[List.drop_take,show 2+j.length*2-2=j.length*2 from by omega]at p;exact p
  ·simpa using L
  ·intro b Z;rcases Z.1 with i|i
   ·exact aj (e.inM b i)
   ·exact ak (by omega)
  ·intro n h;have:n.block=a:=by
    unfold vU at h;split at h
    ·injection h with h;rw[<-h]
    ·injection h with h;rw[<-h]
   exact ak (by omega)
  ·refine⟨?_,ap⟩;refine b9.trans ((bq f M).trans (Q.mono e.inM) λ_ _ i=>i) D λb _ i=>?_;rw[i];exact e.inM pb Y
end
def Up(n:Nat)(w0 w1:ag):Prop:=w0.heap.size<=w1.heap.size/\∀b,n<=b->b<n+3->b<w0.heap.size->w1.heap[b]?=w0.heap[b]?
theorem wJ(w:ag){b q:Nat}(c:b≠q)(o:Nat)(v:ar):(w.setCell ⟨q,o,none⟩ v).heap[b]?=w.heap[b]? :=by
 have d:¬q=b:=λa=>c a.symm;simp[World.setCell,bQ,d]
def wu(w:ag)(g:Nat)(a b:ar):ag:=(w.setCell ⟨g,0,none⟩ a).setCell ⟨g,0+1,none⟩ b
theorem lQ{w:ag}{g b:Nat}(a:b≠g)(x y:ar):(wu w g x y).heap[b]?=w.heap[b]? :=(wJ _ a _ _).trans (wJ _ a _ _)
theorem IJ(w:ag)(g:Nat)(x y:ar):(wu w g x y).heap.size=w.heap.size:=by simp[wu,World.setCell]
theorem Cs(al:Nat)(k i:Int)(t:ap)(h:au)(l j:Nat)(w:ag)(O:Wd->Int->ag->ag->Prop)(an:ag->ag->Prop)(aJ:Wd->Int->ag->ag->Prop)(aL:Hid (∀w0,am w w0->ao 73 #[.pointer (some ⟨al,1,none⟩),.agg #[ab k,ab i,af t,ae h l j]] w0 λe w1=>∃(v:Wd)(g:Int),e=.returned (.tuple #[.agg #[ab v.1,ab v.2],ab g])/\Hid (Up w.heap.size w0 w1/\O v g w0 w1)))(aN:Hid (∀v1 w0 w1 w2,am w w0->O v1 6 w0 w1->b9 (λb=>w.heap.size<=b/\b<w0.heap.size) w1 w2->w.heap.size+3<=w2.heap.size->ao 23 #[aH al] w2 λe d=>e=.returned (.tuple #[])/\Hid (Up w.heap.size w2 d/\an w2 d)))(aM:Hid (∀w2 d N,an w2 d->w.heap.size+3<=w2.heap.size->am d N->ao 73 #[.pointer (some ⟨al,1,none⟩),.agg #[ab k,ab i,af t,ae h l j]] N λe w4=>∃(v:Wd)(g:Int),e=.returned (.tuple #[.agg #[ab v.1,ab v.2],ab g])/\Hid (Up w.heap.size N w4/\aJ v g N w4))):ao 123 #[aH al,.agg #[ab k,ab i,af t,ae h l j]] w λe w'=>∃(v:Wd)(g:Int),e=.returned (.tuple #[.agg #[ab v.1,ab v.2],ab g])/\ ((g≠6/\∃w0 w1,am w w0/\O v g w0 w1/\b9 (λb=>w.heap.size<=b/\b<w0.heap.size) w1 w')\/∃v1 w0 w1 w2 d N w4,am w w0/\O v1 6 w0 w1/\b9 (λb=>w.heap.size<=b/\b<w0.heap.size) w1 w2/\w.heap.size+3<=w2.heap.size/\an w2 d/\am d N/\aJ v g N w4/\b9 (λb=>b=w.heap.size+1) w4 w'):=by
 go_enter func123,ntmps123;go_wp2_with fail;have R:=aq (kF w (.cells #[ab k,ab i,af t,ae h l j] 31) (.cells #[ab 0,ab 0] 109));have m:Hid (am w ((w.alloc (.cells #[ab k,ab i,af t,ae h l j] 31)).alloc (.cells #[ab 0,ab 0] 109))/\((w.alloc (.cells #[ab k,ab i,af t,ae h l j] 31)).alloc (.cells #[ab 0,ab 0] 109)).heap.size=w.heap.size+1+1):=⟨by go_grown,by simp⟩;generalize aO:(w.alloc _).alloc _=c;rw[aO]at R m;clear aO;have F:Hid (∀w':ag,w'.heap[w.heap.size]?=c.heap[w.heap.size]? ->ah w' w.heap.size 0 (ab k)/\ah w' w.heap.size 1 (ab i)/\ah w' w.heap.size 2 (af t)/\ah w' w.heap.size 3 (ae h l j)):=λw' T=>by
  have f:=T.trans R.1;exact⟨ax f 0,ax f 1,ax f 2,ax f 3⟩
 obtain⟨aU,aV,aW,aY⟩:=F.out c rfl;have u:Hid (am c c.drew/\c.drew.heap[w.heap.size]?=c.heap[w.heap.size]?):=⟨(aA _ _).drew,rfl⟩;have Q:Hid (am c (c.alloc (.cells #[ab 0,ab 0] 109)).drew/\(c.alloc (.cells #[ab 0,ab 0] 109)).drew.heap[w.heap.size]?=c.heap[w.heap.size]?):=by
  have T:am c (c.alloc (.cells #[ab 0,ab 0] 109)).drew:=by go_grown
  exact⟨T,T.block _ (by have:=m.2;omega)⟩
 have aB:Hid ((c.alloc (.cells #[ab 0,ab 0] 109)).drew.heap[c.heap.size]?=some (.cells #[ab 0,ab 0] 109)/\(c.alloc (.cells #[ab 0,ab 0] 109)).drew.heap.size=c.heap.size+1):=⟨rU c _ rfl,by simp⟩
 go_region_held3 (λw'=>ah w' w.heap.size 0 (ab k)/\ah w' w.heap.size 1 (ab i)/\ah w' w.heap.size 2 (af t)/\ah w' w.heap.size 3 (ae h l j)) (first|(go_keep;done)|with_reducible exact F _ u.2|with_reducible exact F _ Q.2|exact F _ P|exact F _ (ad _)|exact F _ (aw _ _)|exact F _ (aK _ _ _))
  ((first
   | (go_at_call 73;refine(aL _ (m.1.trans (u.1.mono m.1.size))).mono ?_;rintro e w1 ⟨v,g,rfl,p⟩;have P:Hid (w1.heap[w.heap.size]?=c.heap[w.heap.size]?):=(p.1.2 _ (av _) (by omega) (by have f:=u.1.size;have s:=m.2;omega)).trans u.2;have ad:Hid (∀o:Obj,(w1.alloc o).heap[w.heap.size]?=c.heap[w.heap.size]?):=λo=>(gZ w1 o (by have f:=p.1.1;have s:=u.1.size;have ai:=m.2;omega)).trans P;have aK:Hid (∀(o:Obj)(n b:ar),(wu (w1.alloc o) w1.heap.size n b).heap[w.heap.size]?=c.heap[w.heap.size]?):=λo n b=>(lQ (by have f:=p.1.1;have s:=u.1.size;have ai:=m.2;omega) n b).trans (ad o))
   | (go_at_call 73;refine(aL _ (m.1.trans (Q.1.mono m.1.size))).mono ?_;rintro e w1 ⟨v,g,rfl,p⟩;have P:Hid (w1.heap[w.heap.size]?=c.heap[w.heap.size]?):=(p.1.2 _ (av _) (by omega) (by have f:=Q.1.size;have s:=m.2;omega)).trans Q.2;have X:Hid (w1.heap[c.heap.size]?=some (.cells #[ab 0,ab 0] 109)):=(p.1.2 c.heap.size (by have s:=m.2;omega) (by have s:=m.2;omega) (by have s:=aB.2;omega)).trans aB.1;have aR:ah w1 c.heap.size 0 (ab 0):=ax X 0;have aS:ah w1 c.heap.size 1 (ab 0):=ax X 1;have aT:=λz=>dg X z;have aw:Hid (∀n b:ar,(wu w1 c.heap.size n b).heap[w.heap.size]?=c.heap[w.heap.size]?):=λn b=>(lQ (by have ai:=m.2;omega) n b).trans P)))
 ·have V:Hid (∃w0 r w2,(r=w1.heap.size/\w2=w1.alloc (.cells #[ab v.1,ab v.2] 109))/\am w w0/\O v g w0 w1/\b9 (λb=>w.heap.size<=b/\b<w0.heap.size) w1 w2/\w.heap.size+3<=w2.heap.size/\w2.heap[w.heap.size]?=some (.cells #[ab k,ab i,af t,ae h l j] 31)/\w2.heap[w.heap.size+1]?=some (.cells #[ab 0,ab 0] 109)/\w2.heap[r]?=some (.cells #[ab v.1,ab v.2] 109)/\w.heap.size+1≠r/\w.heap.size+2<=w0.heap.size):=by
    have f:=p.1.1;have s:=u.1.size;have ai:=m.2;have aC:∀b,b<w1.heap.size->(w1.alloc (.cells #[ab v.1,ab v.2] 109)).heap[b]?=w1.heap[b]? :=λb aQ=>gZ w1 _ aQ;refine⟨c.drew,_,_,⟨rfl,rfl⟩,m.1.trans (u.1.mono m.1.size),p.2,bq aX _,by simp only[iV];omega,(ad _).trans R.1,?_,aD _ _,by omega,by omega⟩;exact(aC _ (by omega)).trans ((p.1.2 _ (by omega) (by omega) (by omega)).trans ((u.1.block _ (by omega)).trans R.2))
  obtain⟨w0,r,w2,⟨S,J⟩,a⟩:=V.out;rw[<-S,<-J];replace a:=aq a;clear S J V ad aK P p;have aG:ah w2 r 0 (ab v.1):=ax a.2.2.2.2.2.2.1 0;have aI:ah w2 r 1 (ab v.2):=ax a.2.2.2.2.2.2.1 1;have A:w2.cell? ⟨w.heap.size+1,0,none⟩=some (ab 0):=ax a.2.2.2.2.2.1 0;have B:w2.cell? ⟨w.heap.size+1,1,none⟩=some (ab 0):=ax a.2.2.2.2.2.1 1;have aa:=λz=>dg a.2.2.2.2.2.1 z;by_cases K:g=6;rotate_left
  ·have aP:¬(6:Int)=g:=λe=>K e.symm;go_wp2_with fail;refine ay (v:=.tuple #[.agg #[ab v.1,ab v.2],ab g]) (by simp[results,results123,go_sem,A,B]) rfl ?_;obtain⟨G,H,I,_,_,_,_,_,Y⟩:=a.out;refine⟨v,g,rfl,aj ⟨K,w0,w1,G,H,b9.trans I ((bC w2 (w.heap.size+1) 0 _).trans (bC _ (w.heap.size+1) _ _) λ_ _ e=>e) λb _ e=>?_⟩⟩;subst e;omega
  ·subst K;have W:=aq (aN v w0 w1 w2 a.1 a.2.1 a.2.2.1 a.2.2.2.1);go_wp2_with fail;refine W.mono ?_;rintro e d ⟨rfl,C⟩;clear aG aI A B aa W;have q:Hid (d.heap[w.heap.size]?=some (.cells #[ab k,ab i,af t,ae h l j] 31)/\d.heap[w.heap.size+1]?=some (.cells #[ab 0,ab 0] 109)/\w.heap.size+3<=d.heap.size):=by
    have aE:=a.2.2.2.1;have L:=C.1;exact⟨(L.2 _ (by omega) (by omega) (by omega)).trans a.2.2.2.2.1,(L.2 _ (by omega) (by omega) (by omega)).trans a.2.2.2.2.2.1,aF aE L.1⟩
   have x:Hid (am d d.drew):=(aA _ _).drew;have y:Hid (∀w':ag,w'.heap[w.heap.size]?=some (.cells #[ab k,ab i,af t,ae h l j] 31)->ah w' w.heap.size 0 (ab k)/\ah w' w.heap.size 1 (ab i)/\ah w' w.heap.size 2 (af t)/\ah w' w.heap.size 3 (ae h l j)):=λw' f=>⟨ax f 0,ax f 1,ax f 2,ax f 3⟩;obtain⟨t0,t1,t2,t3⟩:=y.out d q.1;go_wp2_with fail
   go_region_held3 (λw'=>ah w' w.heap.size 0 (ab k)/\ah w' w.heap.size 1 (ab i)/\ah w' w.heap.size 2 (af t)/\ah w' w.heap.size 3 (ae h l j)) (first|(go_keep;done)|exact y _ q.1|exact y _ U|exact y _ (az _ _))
    ((go_at_call 73;refine(aM w2 d _ C.2 a.2.2.2.1 x).mono ?_;rintro e w4 ⟨M,Z,rfl,D⟩;have U:Hid (w4.heap[w.heap.size]?=some (.cells #[ab k,ab i,af t,ae h l j] 31)):=(D.1.2 _ (av _) (by omega) (by have f:=q.2.2;have s:=x.size;omega)).trans q.1;have E:Hid (w4.heap[w.heap.size+1]?=some (.cells #[ab 0,ab 0] 109)):=(D.1.2 (w.heap.size+1) (by omega) (by omega) (by have f:=q.2.2;have s:=x.size;omega)).trans q.2.1;have A:w4.cell? ⟨w.heap.size+1,0,none⟩=some (ab 0):=ax E 0;have B:w4.cell? ⟨w.heap.size+1,1,none⟩=some (ab 0):=ax E 1;have aa:=λz=>dg E z;have az:Hid (∀n b:ar,(wu w4 (w.heap.size+1) n b).heap[w.heap.size]?=some (.cells #[ab k,ab i,af t,ae h l j] 31)):=λn b=>(lQ (by omega) n b).trans U))
   go_wp2_with fail;refine ay (v:=.tuple #[.agg #[ab M.1,ab M.2],ab Z]) (by simp[results,results123,go_sem,A,B]) rfl ?_;obtain⟨G,H,I,Y,_⟩:=a.out;exact⟨M,Z,rfl,ak ⟨v,w0,w1,w2,d,d.drew,w4,G,H,I,Y,C.2,x,D.2,(bC w4 (w.heap.size+1) 0 _).trans (bC _ (w.heap.size+1) _ _) λ_ _ e=>e⟩⟩
 ·have V:Hid (∃w0 r w2,(r=c.heap.size/\w2=wu w1 c.heap.size (ab v.1) (ab v.2))/\am w w0/\O v g w0 w1/\b9 (λb=>w.heap.size<=b/\b<w0.heap.size) w1 w2/\w.heap.size+3<=w2.heap.size/\w2.heap[w.heap.size]?=some (.cells #[ab k,ab i,af t,ae h l j] 31)/\w2.heap[w.heap.size+1]?=some (.cells #[ab 0,ab 0] 109)/\w2.heap[r]?=some (.cells #[ab v.1,ab v.2] 109)/\w.heap.size+1≠r/\w.heap.size+2<=w0.heap.size):=by
    have f:=p.1.1;have s:=aB.2;have ai:=m.2;have aC:b9 (λb=>w.heap.size<=b/\b<(c.alloc (.cells #[ab 0,ab 0] 109)).drew.heap.size) w1 (wu w1 c.heap.size (ab v.1) (ab v.2)):=((bC w1 c.heap.size 0 _).trans (bC _ c.heap.size _ _) λ_ _ e=>e).mono λb e=>by subst e;omega
    refine⟨_,_,_,⟨rfl,rfl⟩,m.1.trans (Q.1.mono m.1.size),p.2,aC,by rw[IJ];omega,(aw _ _).trans R.1,?_,?_,by omega,by omega⟩
    ·exact(lQ (by omega) _ _).trans ((p.1.2 _ (by omega) (by omega) (by omega)).trans ((Q.1.block _ (by omega)).trans R.2))
    ·have T:=X.out;unfold wu World.setCell;simp[bQ,T]
  obtain⟨w0,r,w2,⟨S,J⟩,a⟩:=V.out;unfold wu at J;rw[<-S];rw[<-S]at J;rw[<-J];replace a:=aq a;clear S J V aw P p X aR aS aT;have aG:ah w2 r 0 (ab v.1):=ax a.2.2.2.2.2.2.1 0;have aI:ah w2 r 1 (ab v.2):=ax a.2.2.2.2.2.2.1 1;have A:w2.cell? ⟨w.heap.size+1,0,none⟩=some (ab 0):=ax a.2.2.2.2.2.1 0;have B:w2.cell? ⟨w.heap.size+1,1,none⟩=some (ab 0):=ax a.2.2.2.2.2.1 1;have aa:=λz=>dg a.2.2.2.2.2.1 z;by_cases K:g=6;rotate_left
  ·have aP:¬(6:Int)=g:=λe=>K e.symm;go_wp2_with fail;refine ay (v:=.tuple #[.agg #[ab v.1,ab v.2],ab g]) (by simp[results,results123,go_sem,A,B]) rfl ?_;obtain⟨G,H,I,_,_,_,_,_,Y⟩:=a.out;refine⟨v,g,rfl,aj ⟨K,w0,w1,G,H,b9.trans I ((bC w2 (w.heap.size+1) 0 _).trans (bC _ (w.heap.size+1) _ _) λ_ _ e=>e) λb _ e=>?_⟩⟩;subst e;omega
  ·subst K;have W:=aq (aN v w0 w1 w2 a.1 a.2.1 a.2.2.1 a.2.2.2.1);go_wp2_with fail;refine W.mono ?_;rintro e d ⟨rfl,C⟩;clear aG aI A B aa W;have q:Hid (d.heap[w.heap.size]?=some (.cells #[ab k,ab i,af t,ae h l j] 31)/\d.heap[w.heap.size+1]?=some (.cells #[ab 0,ab 0] 109)/\w.heap.size+3<=d.heap.size):=by
    have aE:=a.2.2.2.1;have L:=C.1;exact⟨(L.2 _ (by omega) (by omega) (by omega)).trans a.2.2.2.2.1,(L.2 _ (by omega) (by omega) (by omega)).trans a.2.2.2.2.2.1,aF aE L.1⟩
   have x:Hid (am d d.drew):=(aA _ _).drew;have y:Hid (∀w':ag,w'.heap[w.heap.size]?=some (.cells #[ab k,ab i,af t,ae h l j] 31)->ah w' w.heap.size 0 (ab k)/\ah w' w.heap.size 1 (ab i)/\ah w' w.heap.size 2 (af t)/\ah w' w.heap.size 3 (ae h l j)):=λw' f=>⟨ax f 0,ax f 1,ax f 2,ax f 3⟩;obtain⟨t0,t1,t2,t3⟩:=y.out d q.1;go_wp2_with fail
   go_region_held3 (λw'=>ah w' w.heap.size 0 (ab k)/\ah w' w.heap.size 1 (ab i)/\ah w' w.heap.size 2 (af t)/\ah w' w.heap.size 3 (ae h l j)) (first|(go_keep;done)|exact y _ q.1|exact y _ U|exact y _ (az _ _))
    ((go_at_call 73;refine(aM w2 d _ C.2 a.2.2.2.1 x).mono ?_;rintro e w4 ⟨M,Z,rfl,D⟩;have U:Hid (w4.heap[w.heap.size]?=some (.cells #[ab k,ab i,af t,ae h l j] 31)):=(D.1.2 _ (av _) (by omega) (by have f:=q.2.2;have s:=x.size;omega)).trans q.1;have E:Hid (w4.heap[w.heap.size+1]?=some (.cells #[ab 0,ab 0] 109)):=(D.1.2 (w.heap.size+1) (by omega) (by omega) (by have f:=q.2.2;have s:=x.size;omega)).trans q.2.1;have A:w4.cell? ⟨w.heap.size+1,0,none⟩=some (ab 0):=ax E 0;have B:w4.cell? ⟨w.heap.size+1,1,none⟩=some (ab 0):=ax E 1;have aa:=λz=>dg E z;have az:Hid (∀n b:ar,(wu w4 (w.heap.size+1) n b).heap[w.heap.size]?=some (.cells #[ab k,ab i,af t,ae h l j] 31)):=λn b=>(lQ (by omega) n b).trans U))
   go_wp2_with fail;refine ay (v:=.tuple #[.agg #[ab M.1,ab M.2],ab Z]) (by simp[results,results123,go_sem,A,B]) rfl ?_;obtain⟨G,H,I,Y,_⟩:=a;exact⟨M,Z,rfl,ak ⟨v,w0,w1,w2,d,d.drew,w4,G,H,I,Y,C.2,x,D.2,(bC w4 (w.heap.size+1) 0 _).trans (bC _ (w.heap.size+1) _ _) λ_ _ e=>e⟩⟩
theorem kp.lay{N:Nat}{ws:List Wd}{nm:List ap}{room:Int}{i:List Wd}{q:List (Tm N)}(t:kp N ws nm room i q)(x:Tm N)(j:bG N x=0/\aT N x=true/\sz N x<=room-ws.length)(y:(bj N x ws nm).2.2.Nodup):kp N (bj N x ws nm).2.1 (bj N x ws nm).2.2 room (i++ [(bj N x ws nm).1]) (q++ [x]):=by
 obtain⟨e,A,B,K,L,C,D,M⟩:=t;have n:=o9 j.1;obtain⟨p,F⟩:=mS N x ws nm;have z:=ii N x ws nm n;have m:=zX N x ws nm n;have J:=(ji N x ws nm).1;have l:∀c∈i,pw (bj N x ws nm).2.1 N c=pw ws N c/\∀E∈pw ws N c,E<ws.length:=λc h=>by
  obtain⟨f,_,o⟩:=e.mem h;exact⟨si p N f c o,Aj N f c o⟩
 refine⟨⟨by simp[e.1],λk G f d a=>?_⟩,?_,λf a=>?_,?_,by omega,C,D,y⟩
 ·rcases Nat.lt_or_ge k i.length with g|g
  ·rw[dw g]at d;rw[dw (by rw[<-e.1];exact g)]at a;exact(e.2 k G f d a).mono p F
  ·rw[dM g]at d;rw[dM (by rw[<-e.1];exact g)]at a;have s:k-i.length=0:=by
    have:=(aY.1 d).1;simp at this;omega
   rw[<-e.1]at a;rw[s]at d a;simp only[dc,gU]at d a;rw[<-d,<-a];exact z
 ·rw[ld,nN (λc h=>(l c h).1)];simp only[bM,List.flatMap_nil,dL];refine fH.2 ⟨A,m.1,λr u b w=>?_⟩;obtain⟨c,h,v⟩:=ip.1 u;have H:=(l c h).2 r v;have I:=m.2 b w;omega
 ·rcases cY.1 a with a|a
  ·exact B f a
  ·rw[dx.1 a];exact⟨j.1,j.2.1⟩
 ·simp only[gQ,List.sum_append,aV,cC,bO,ir];omega
def tb(N:Nat)(x:Tm N)(room:Int)(a:List (Tm N)):Int:=if bG N x≠0 then bG N x else if aT N x=false then 5 else if (a.map (sz N)).sum+sz N x<=room then 0 else 6
theorem EH{N:Nat}{x:Tm N}{room:Int}{ws:List Wd}{e:List (Tm N)}(c:jZ N x room ws≠6)(f:(e.map (sz N)).sum<=(ws.length:Int)):tb N x room e=jZ N x room ws:=by
 unfold tb jZ at*;by_cases a:bG N x≠0
 ·simp[a]
 ·by_cases b:aT N x=false
  ·simp[a,b]
  ·rw[if_neg a,if_neg b]at c;rw[if_neg a,if_neg a,if_neg b,if_neg b];by_cases d:sz N x<=room-ws.length
   ·rw[if_pos (by omega)];simp[d]
   ·simp[d]at c
theorem EG{N:Nat}{x:Tm N}{room:Int}{ws:List Wd}{a:List (Tm N)}(e:(ws.length:Int)=(a.map (sz N)).sum):tb N x room a=jZ N x room ws:=by
 unfold tb jZ;have b:((a.map (sz N)).sum+sz N x<=room)=(sz N x<=room-ws.length):=by rw[e];exact propext ⟨λd=>by omega,λd=>by omega⟩
 by_cases c:sz N x<=room-ws.length
 ·simp[c,b]
 ·simp[c,b]
section
variable {base pb:Nat} {name:ap} {room:Int} {N:Nat} {s:Tm (N+1)} {ms:List (Tm (N+1))} {xs:List (Wd×Tm (N+1))} {nk:Nat} {M:aO} {w:ag} {ws:List Wd} {nm:List ap} {sv:Wd} {vs:List Wd} {ma:au} {mc:Nat} {Mh:aO}
theorem cR.kept(a:cR base pb name room (N+1) s ms xs nk M w ws nm sv vs ma mc Mh){S:aO}{w1:ag}(k:b9 S w w1)(g:∀b,M b->b<w.heap.size->¬S b):cR base pb name room (N+1) s ms xs nk M w1 ws nm sv vs ma mc Mh:=by
 refine⟨a.heap.kept k λb m c=>g b (a.inM b m) c,?_,a.has,a.len,a.names,a.inM,a.mailM⟩;rcases a.mail with i|⟨d,n,h,e,j,f,l⟩
 ·exact aj i
 ·have c:=(aI.1 f).1;exact ak ⟨d,n,h,e,j,(k.block d c (g d (a.mailM _ e) c)).trans f,l⟩
theorem cR.mono(a:cR base pb name room (N+1) s ms xs nk M w ws nm sv vs ma mc Mh){M':aO}{nk':Nat}(c:∀b,M b->M' b)(g:nk<=nk'):cR base pb name room (N+1) s ms xs nk' M' w ws nm sv vs ma mc Mh:=
 ⟨a.heap,a.mail,a.has,a.len,aF a.names g,λb f=>c b (a.inM b f),λd e=>c _ (a.mailM d e)⟩
theorem cR.inside(a:cR base pb name room (N+1) s ms xs nk M w ws nm sv vs ma mc Mh):cR base pb name room (N+1) s ms xs nk (λb=>M b/\b<w.heap.size) w ws nm sv vs ma mc (λb=>Mh b/\b<w.heap.size):=by
 refine⟨a.heap.inside,?_,a.has,a.len,a.names,λb k=>⟨a.inM b k.1,k.2⟩,λm c=>⟨a.mailM m c,?_⟩⟩
 ·rcases a.mail with d|⟨j,l,g,e,h,f,i⟩
  ·exact aj d
  ·exact ak ⟨j,l,g,e,λn=>h n.1,f,i⟩
 ·rcases a.mail with⟨d,_⟩|⟨j,l,g,e,h,f,i⟩
  ·rw[d]at c;cases c
  ·rw[e]at c;injection c with c;rw[<-c];exact(aI.1 f).1
def zn(N:Nat)(x:Tm N)(base:Nat)(b:cI)(room:Int)(ws:List Wd)(nm:List ap)(M:aO)(v:Wd)(a:Int)(w w':ag):Prop:=
 a=jZ N x room ws/\(a≠0->v=(0,0)/\am w w')/\(a=0->(bG N x=0/\aT N x=true/\sz N x<=room-ws.length)/\v=(bj N x ws nm).1/\mH base b room (bj N x ws nm).2.1 (bj N x ws nm).2.2 M w w')
theorem Am{N:Nat}{x:Tm N}{h:cI}{e:Ending}{w w':ag}(g:JG N x base h room ws nm M w e w'):∃(v:Wd)(f:Int),e=.returned (.tuple #[.agg #[ab v.1,ab v.2],ab f])/\zn N x base h room ws nm M v f w w':=by
 by_cases a:jZ N x room ws=0
 ·obtain⟨b,c,i⟩:=g.2 a;exact⟨_,0,c,a.symm,λd=>absurd rfl d,λ_=>⟨b,rfl,i⟩⟩
 ·obtain⟨b,c⟩:=g.1 a;exact⟨(0,0),_,b,rfl,λ_=>⟨rfl,c⟩,λd=>absurd d a⟩
theorem dX.nodup{c:cI}(a:dX base c room ws nm M w):nm.Nodup:=by
 obtain⟨_,_,_,_,_,b,_⟩:=a;exact b.2.1
theorem cR.put1(d:cR base pb name room (N+1) s ms [] nk M w ws nm sv vs ma mc Mh){x:Tm (N+1)}{v:Wd}{e:Int}{w':ag}(t:zn (N+1) x base (PL pb name sv (ae ma vs.length mc)) room ws nm Mh v e w w'):∃A z m,cR base pb name room (N+1) s ms (if e=0 then [(v,x)]else []) (nk+201) (λb=>M b\/w.heap.size<=b) w' A z sv vs ma mc m/\b9 M w w':=by
 obtain⟨f1,f2,f3⟩:=t;by_cases f:e=0
 ·obtain⟨c,rfl,k,l⟩:=f3 f;rw[if_pos f];have D:=(ji (N+1) x ws nm).2;have C:=oB c.1;have B:=d.names;refine⟨_,_,λb=>Mh b\/w.heap.size<=b,⟨k,?_,?_,d.len,by omega,?_,λn r=>aj (d.mailM n r)⟩,l.mono d.inM⟩
  ·rcases d.mail with p|⟨j,y,o,e,h,i,q⟩
   ·exact aj p
   ·have u:=(aI.1 i).1;refine ak ⟨j,y,o,e,λa=>?_,(l.block j u h).trans i,q⟩;rcases a with a|a
    ·exact h a
    ·omega
  ·have:=d.has;simp only[cC,dL]at this;exact this.lay x c k.nodup
  ·intro b g;rcases g with a|a
   ·exact aj (d.inM b a)
   ·exact ak a
 ·obtain⟨_,g⟩:=f2 f;rw[if_neg f];exact⟨ws,nm,Mh,(d.later g).mono (λb a=>aj a) (by omega),bq g M⟩
def QC(base pb:Nat)(name:ap)(room:Int)(N:Nat)(s:Tm N)(ms:List (Tm N))(x:Tm N)(nk:Nat)(M:aO)(w:ag)(e:Ending)(w':ag):Prop:=
 ∃a:Wd,e=.returned (.tuple #[.agg #[ab a.1,ab a.2],ab (tb N x room (s::ms))])/\Hid (∃j g h i d f c,cR base pb name room N s ms (if tb N x room (s::ms)=0 then [(a,x)]else []) (nk+201) (λb=>M b\/w.heap.size<=b) w' j g h i d f c/\b9 M w w')
theorem cR.put(y:cR base pb name room (N+1) s ms [] nk M w ws nm sv vs ma mc Mh)(x:Tm (N+1))(af:In w.heap.size w (N+1) x)(ay:cv (λb=>¬M b) (N+1) x)(ap:(aC (N+1) x).length<=2097152)(G:∀b,M b->b<w.heap.size)(aP:nk<=49000)(al:ms.length<=999)(aM:base<=w.heap.size):ao 123 #[aH pb,dB (N+1) x] w (QC base pb name room (N+1) s ms x nk M w):=by
 have aN:=y.len;have aQ:=y.names;have ar:=y.front;obtain⟨_,_,_,aE,aT,aF,aG,_⟩:=ar;have Z:=In.offB ay af
 have aa:∀{f:ag}{D:List Wd}{B:Wd}{C:List Wd}{z:au}{A:Nat}{q P:aO},cR base pb name room (N+1) s ms [] nk P f D nm B C z A q->b9 M w f->(∀b,P b->M b\/w.heap.size<=b)->
   ao 73 #[.pointer (some ⟨pb,1,none⟩),dB (N+1) x] f λE g=>∃(e:Wd)(d:Int),E=.returned (.tuple #[.agg #[ab e.1,ab e.2],ab d])/\zn (N+1) x base (PL pb name B (ae z C.length A)) room D nm q e d f g:=by
  intro f D B C z A q P r ah an;have aA:=ah.size;obtain⟨_,_,_,_,aU,aV,aW,_⟩:=r.front;have aB:In f.heap.size f (N+1) x:=(In.off (λb (c:¬M b/\b<w.heap.size)=>ah.block b c.2 c.1) Z af).mono aA;have az:cv (λb=>¬q b) (N+1) x:=Z.mono λb c a=>by
   rcases an b (r.inM b a)with t|t
   ·exact c.1 t
   ·have:=c.2;omega
  exact(vC (N+1) x base (PL pb name B (ae z C.length A)) room D nm q f r.heap aB az ap (by omega) aF aG (by omega) (by omega)).mono λE g a=>Am a
 have T:∀{n:Nat}{V:aO}{j g:ag},b9 V j g->(∀b,n<=b->b<n+3->b<j.heap.size->¬V b)->Up n j g:=λk aq=>⟨k.size,λb u O F=>k.block b F (aq b u O F)⟩;have Y:∀{e:Wd}{d:Int}{j g:ag}{D:List Wd}{B:Wd}{C:List Wd}{z:au}{A:Nat}{q:aO},zn (N+1) x base (PL pb name B (ae z C.length A)) room D nm q e d j g->b9 q j g:=λ{e d j g D B C z A q} a=>by
  by_cases W:d=0
  ·exact(a.2.2 W).2.2.2
  ·exact bq (a.2.1 W).2 _
 refine(Cs pb x.1.1 x.1.2.1 x.1.2.2 x.2.1.1 x.2.2.length x.2.1.2 w (λe d j g=>zn (N+1) x base (PL pb name sv (ae ma vs.length mc)) room ws nm Mh e d j g)
  (λH I=>b9 M w I/\H.heap.size<=I.heap.size/\∃l p i o m,cR base pb name room (N+1) s ms [] nk (λb=>M b\/H.heap.size<=b) I l nm p i o i.length m/\(l.length:Int)=((s::ms).map (sz (N+1))).sum)
  (λe d f U=>b9 M w f/\w.heap.size+3<=f.heap.size/\∃l p i o m,cR base pb name room (N+1) s ms [] nk (λb=>M b\/w.heap.size+3<=b) f l nm p i o i.length m/\(l.length:Int)=((s::ms).map (sz (N+1))).sum/\zn (N+1) x base (PL pb name p (ae o i.length i.length)) room l nm m e d f U) ?_ ?_ ?_).mono ?_
 ·intro j c;refine(aa (y.later c) (bq c M) λb a=>aj a).mono ?_;rintro E g ⟨e,d,rfl,h⟩;refine⟨e,d,rfl,T (Y h) λb u _ _ a=>?_,h⟩;have:=G b (y.inM b a);omega
 ·intro aK j g H c h v aD;have X:=(h.2.1 (by decide)).2;have ad:=c.size;have O:=((y.later c).later X).kept v λb a _ t=>by
   have:=G b a;omega
  have aw:b9 M w H:=b9.trans ((bq c M).trans (bq X M) λ_ _ a=>a) v λb Q a=>by omega
  refine(O.tidy (by omega) al (by omega)).mono ?_;rintro E I ⟨rfl,l,p,i,o,m,F,K,S⟩;refine⟨rfl,T K λb u _ _ a=>?_,aw.trans K λ_ _ a=>a,K.size,l,p,i,o,m,F,S⟩;have:=G b a;omega
 ·rintro H I f ⟨K,aR,l,p,i,o,m,F,S⟩ aD c
  have r:=(F.later c).mono (M':=λb=>M b\/w.heap.size+3<=b) (nk':=nk) (λb a=>by
   rcases a with a|a
   ·exact aj a
   ·exact ak (by omega)) (av _)
  have L:b9 M w f:=K.trans (bq c M) λ_ _ a=>a
  refine(aa r L λb a=>by
   rcases a with a|a
   ·exact aj a
   ·exact ak (by omega)).mono ?_
  rintro E U ⟨e,d,rfl,h⟩;refine⟨e,d,rfl,T (Y h) λb u O _ a=>?_,L,by have:=c.size;omega,l,p,i,o,m,r,S,h⟩;rcases r.inM b a with t|t
  ·have:=G b t;omega
  ·omega
 ·rintro E aX ⟨e,d,rfl,⟨am,j,g,c,h,v⟩|⟨aK,j,g,H,I,f,U,_,_,_,_,_,_,⟨L,aS,l,p,i,o,m,r,ax,h⟩,v⟩⟩
  ·have ad:=c.size;have J:d=tb (N+1) x room (s::ms):=by
    rw[EH (ws:=ws) (by rw[<-h.1];exact am) aE];exact h.1
   obtain⟨l,aI,m,u,R⟩:=(y.later c).put1 h;refine⟨e,by rw[<-J],l,aI,sv,vs,ma,mc,m,?_,?_⟩
   ·rw[<-J];refine(u.kept v λb a _ t=>?_).mono (λb a=>?_) (av _)
    ·rcases a with a|a
     ·have:=G b a;omega
     ·omega
    ·rcases a with a|a
     ·exact aj a
     ·exact ak (by omega)
   ·exact b9.trans ((bq c M).trans R λ_ _ a=>a) v λb Q a=>by omega
  ·have ad:=L.size;have J:d=tb (N+1) x room (s::ms):=by
    rw[EG ax];exact h.1
   obtain⟨aL,aJ,ai,u,R⟩:=r.put1 h;refine⟨e,by rw[<-J],aL,aJ,p,i,o,i.length,ai,?_,?_⟩
   ·rw[<-J];refine(u.kept v λb a _ t=>?_).mono (λb a=>?_) (av _)
    ·subst t;rcases a with(a|a)|a
     ·have:=G _ a;omega
     ·omega
     ·omega
    ·rcases a with(a|a)|a
     ·exact aj a
     ·exact ak (by omega)
     ·exact ak (by omega)
   ·refine b9.trans (L.trans R λb Q a=>?_) v λb Q a=>by omega
    rcases a with a|a
    ·exact a
    ·omega
end
theorem tX(vs:List Wd)(v:Wd):bm (vs++ [v])=bm vs++qq v:=by simp[bm]
theorem oN{P:Program}(w:ag)(t ty e:TypeId)(i:TypeInfo)(y:P.underlying t=some (.slice e))(s:P.info? e=some i)(g f d l:Nat)(h:Array ar)(r:w.heap[g]?=some (.cells h e (0,0)))(a:Addr)(m c:Nat)(b:List ar)(u:b.length=m*i.size)(v:∀j k,b[j]?=some k->w.cell? (a.add j)=some k)(o:∀k∈b,k.oneCell'=true)(x:d+m<=l)(q:f+d*i.size+b.length<=h.size):(Builtin.append_ #[t,t] ty #[ae (some ⟨g,f,none⟩) d l,ae (some a) m c]).run P w= .ok (ae (some ⟨g,f,none⟩) (d+m) l) (w.setRow g (h.toList.take (f+d*i.size)++b++h.toList.drop (f+d*i.size+b.length)).toArray):=by
 have p:=run_firstCells_some (P:=P) w i.size m a m c b u v;have n:=pT P g (f+d*i.size) e b 0 h w r (by simpa using q) o;simp only[iT]at n;simp[Builtin.append_,cu y,sizeOf,typeInfo,s,Builtin.lenOf,x,p,eP,n]
def rm(Mh:aO)(ma:au)(vs:List Wd)(w:ag)(d:au)(e:Nat)(w':ag):Prop:=
 jV Mh d vs e w'/\b9 (λb=>∃a,ma=some a/\b=a.block) w w'/\∀a,d=some a->(∃c,ma=some c/\a.block=c.block)\/a.block=w.heap.size
theorem Lw{S:aO}(w:ag)(g:Nat)(cs:Array ar)(a:∀b,b=g->S b):b9 S w (w.setRow g cs):=⟨rfl,rfl,rfl,by simp,λ_ _ c=>setRow_other _ _ _ _ λe=>c (a _ e)⟩
theorem vV{Mh:aO}{ma:au}{w:ag}(a:List Wd)(C c:Nat)(d:ar)(l:d.cells.size=2)(p:c=a.length)(f:a.length<=C)(g:C<=maxLen)(h:∀b,Mh b->b<w.heap.size):rm Mh ma a w (some ⟨w.heap.size,0,none⟩) C (w.drew.alloc (.cells ((bm a).toArray++Builtin.zeroCells d.cells (C-c)) 109)):=by
 have e:∀b,b<w.heap.size->(w.drew.alloc (.cells ((bm a).toArray++Builtin.zeroCells d.cells (C-c)) 109)).heap[b]?=w.heap[b]? :=λb e=>Below.heap_alloc w.drew _ b e;have k:(w.drew.alloc (.cells ((bm a).toArray++Builtin.zeroCells d.cells (C-c)) 109)).heap[w.heap.size]?=some (.cells ((bm a).toArray++Builtin.zeroCells d.cells (C-c)) 109):=aD w.drew _;refine⟨ak ⟨w.heap.size,0,_,rfl,λm=>?_,k,f,g,?_,?_⟩,⟨rfl,rfl,rfl,?_,λb j _=>e b j⟩,λn i=>ak (congrArg Addr.block (az i).symm)⟩
 ·have:=h _ m;omega
 ·rw[Array.size_append,size_zeroCells,l,eh,cM];omega
 ·rw[List.drop_zero,Array.toList_append,iR (by rw[pP,cM];omega),pP,bA (by rw[cM];omega)]
 ·have:=iV w.drew (.cells ((bm a).toArray++Builtin.zeroCells d.cells (C-c)) 109);have o:w.drew.heap.size=w.heap.size:=rfl;omega
theorem uq{Mh:aO}{ma:au}{vs:List Wd}{f:Nat}{w:ag}(ty:TypeId)(l:jV Mh ma vs f w)(O:vs.length<=1000)(x:∀b,Mh b->b<w.heap.size)(sa:Addr)(c:Nat)(v:Wd)(r:∀j k,(qq v)[j]?=some k->w.cell? (sa.add j)=some k):∃C D w',(Builtin.append_ #[100,100] ty #[ae ma vs.length f,ae (some sa) 1 c]).run Tryz.prog w=.ok (ae C (vs.length+1) D) w'/\rm Mh ma (vs++ [v]) w C D w':=by
 obtain⟨o,q,A,h,B⟩:=bU lJ;have L:∀k∈qq v,k.oneCell'=true:=by simp[qq,Value.oneCell']
 have i:(qq v).length=2:=rfl;rcases l with⟨rfl,rfl,rfl⟩|⟨e,a,d,rfl,s,n,F,t,G,u⟩
 ·have m:=run_append_nil (P:=Tryz.prog) w 100 ty 109 o _ underlying100 q A sa 1 c (qq v) (by rw[i,h]) r (by omega) (by omega) (by rw[B];omega);refine⟨_,_,_,m,?_⟩;have l:=vV (Mh:=Mh) (ma:=none) (w:=w) [v] (grownCap w 1 0 109) 1 (.agg #[ab 0,ab 0]) rfl rfl (grownCap_ge w 1 0 _) (grownCap_le_maxLen w 1 0 _ (by unfold maxLen;omega)) x;simpa [bm]using l
 ·have Q:=(aI.1 n).1;by_cases M:vs.length+1<=f
  ·have y:a+vs.length*o.size+(qq v).length<=d.size:=by rw[i,h];omega
   have m:=oN (P:=Tryz.prog) w 100 ty 109 o underlying100 q e a vs.length f d n sa 1 c (qq v) (by rw[i,h]) r L M y;refine⟨_,_,_,m,ak ⟨e,a,_,rfl,s,setRow_heap w e d _ _ _ n,?_,t,?_,?_⟩,?_,λN H=>aj ⟨_,rfl,?_⟩⟩
   ·simp only[bt,bu,iP];omega
   ·have p:d.toList.length=d.size:=iM;rw[h]at y ⊢;simp only[eh,bt,dF,fo,p];omega
   ·rw[h];have R:(d.toList.take (a+vs.length*2)).length=a+vs.length*2:=by
     have p:d.toList.length=d.size:=iM;rw[dF,p];omega
    have J:(d.toList.take (a+vs.length*2)).drop a=bm vs:=by
     rw[List.drop_take,Nat.add_sub_cancel_left];exact u
    rw[tX,kX,ns (by omega),J];have g:(vs++ [v]).length*2=(bm vs).length+2:=by
     rw[cM];simp only[bt,bu,iP];omega
    rw[g,List.take_length_add_append,iR (by rw[i];omega),bA (by rw[i];omega)]
   ·exact Lw w e _ λb g=>⟨_,rfl,g⟩
   ·exact congrArg Addr.block (az H).symm
  ·have m:=run_append_grow (P:=Tryz.prog) w 100 ty 109 o _ underlying100 q A ⟨e,a,none⟩ vs.length f (bm vs) (by rw[cM,h]) (λj k z=>by
     have K:jV Mh (some ⟨e,a,none⟩) vs f w:=ak ⟨e,a,d,rfl,s,n,F,t,G,u⟩;rcases K.words with g|⟨ad,g,I⟩
     ·subst g;simp[bm]at z
     ·have E:=az g;rw[E]
      exact I j k z) sa 1 c (qq v) (by rw[i,h]) r (by omega) (by omega) (growslice_fits (by omega) (by rw[B];omega))
   refine⟨_,_,_,m,?_⟩;have l:=vV (Mh:=Mh) (ma:=some ⟨e,a,none⟩) (w:=w) (vs++ [v]) (grownCap w (vs.length+1) f 109) (vs.length+1) (.agg #[ab 0,ab 0]) rfl (by simp) (by have:=grownCap_ge w (vs.length+1) f 109;simpa using this) (grownCap_le_maxLen w _ _ _ (by unfold maxLen;omega)) x;simpa [tX]using l
theorem xH{w w':ag}{v x' b:ar}{o:Oper}{a:Act}{K:Act->ag->Prop}{Q:Exit->Act->ag->Prop}(s x:Operand)(d:o.op=.call {callee:=.builtin .append,args:= #[s,x],argTypes:= #[100,100]})(f:a.eval s=v)(g:a.eval x=x')(e:(Builtin.append_ #[100,100] o.type #[v,x']).run Tryz.prog w=.ok b w')(c:K (a.put o.dst b) w'):Oper.wp Tryz.prog o a w K Q:=by
 unfold Oper.wp execOp;simp only[d,resolve,invoke,builtin,Sem.run_bind,Sem.run_pure,nC,nu,aV,cC,f,g,e];exact c
theorem rJ(g:Nat)(k i:Int)(t:ap)(B:au)(D C:Nat)(L aJ:Nat)(ma:au)(w:ag)(E:Wd->Int->ag->ag->Prop)(H:Wd->ag->ag->au->Nat->ag->Prop)(aT:g<w.heap.size)(Z:Hid (∀w1,am w w1->ah w1 g 7 (ae ma L aJ)))(ad:Hid (∀w0,am w w0->ao 123 #[aH g,.agg #[ab k,ab i,af t,ae B D C]] w0 λe w1=>∃(v:Wd)(h:Int),e=.returned (.tuple #[.agg #[ab v.1,ab v.2],ab h])/\Hid (Up w.heap.size w0 w1/\E v h w0 w1)))(ai:Hid (∀v w0 w1,E v 0 w0 w1->∃q r,Hid (∀w2,am w1 w2->ah w2 g 7 (ae q L r)/\∀j,w2.frozen? ⟨g,j,none⟩=false)/\Hid (∀w2,am w1 w2->∀(sa:Addr)(c:Nat),(∀j M,(qq v)[j]?=some M->w2.cell? (sa.add j)=some M)-> ∃m n d,(Builtin.append_ #[100,100] 100 #[ae q L r,ae (some sa) 1 c]).run Tryz.prog w2=.ok (ae m (L+1) n) d/\ah d g 7 (ae q L r)/\(∀j,d.frozen? ⟨g,j,none⟩=false)/\(∀b,w1.heap.size<=b->b<w2.heap.size->d.heap[b]?=w2.heap[b]?)/\H v w0 w2 m n d))):ao 85 #[aH g,.agg #[ab k,ab i,af t,ae B D C]] w λe w'=> (20<=L->e=.returned (ab 2)/\am w w')/\(L<20->∃(v:Wd)(h:Int)(w0 w1:ag),e=.returned (ab h)/\am w w0/\E v h w0 w1/\(h≠0->am w1 w')/\(h=0->∃w2 m n d,am w1 w2/\H v w0 w2 m n d/\w'=(d.setCell ⟨g,7,none⟩ (ae m (L+1) n)))):=by
 have aa:=aq (yn w (.cells #[ab k,ab i,af t,ae B D C] 31) rfl);have F:Hid (am w (w.alloc (.cells #[ab k,ab i,af t,ae B D C] 31))/\(w.alloc (.cells #[ab k,ab i,af t,ae B D C] 31)).heap.size=w.heap.size+1):=⟨by go_grown,by simp⟩;go_enter func85,ntmps85;have T:=Z w (aA _ _);rcases Nat.lt_or_ge L 20 with aw|aw
 ·have az:¬(20:Int)<=(L:Int):=by omega
  have Q:=aq (ad _ F.1);go_wp2_with fail;refine Q.mono ?_;rintro e w1 ⟨v,h,rfl,N⟩;have R:Hid (∃w0,am w w0/\E v h w0 w1):=⟨_,F.1,N.2⟩;obtain⟨w0,s⟩:=R.out;replace s:=aq s;clear R N Q aa F T;by_cases K:h=0;rotate_left
  ·have aR:¬(0:Int)=h:=λe=>K e.symm;go_wp2_with fail;exact ay (v:=ab h) (by simp[results,results85,go_sem]) rfl ⟨λa=>by omega,λ_=>⟨v,h,w0,w1,rfl,s.1,s.2,λ_=>aX,λa=>absurd a K⟩⟩
  ·subst K;obtain⟨q,r,aj,ak⟩:=ai v w0 w1 s.2;have S:Hid (∃w2 f,(w2=w1.alloc (.cells #[ab v.1,ab v.2] 109)/\f=w1.heap.size)/\am w1 w2/\w2.heap[f]?=some (.cells #[ab v.1,ab v.2] 109)/\w1.heap.size<=f):=⟨_,_,⟨rfl,rfl⟩,aX,aD _ _,av _⟩;go_wp2_with fail;obtain⟨w2,f,⟨Y,W⟩,o⟩:=S.out;rw[<-Y,<-W];replace o:=aq o;clear Y W S;have z:Hid (∀w':ag,am w2 w'->(ah w' g 7 (ae q L r)/\∀j,w'.frozen? ⟨g,j,none⟩=false)/\ah w' f 0 (ab v.1)/\ah w' f 1 (ab v.2)):=λw' a=>by
    have A:=(a.block f (aI.1 o.2.1).1).trans o.2.1;exact⟨aj _ (o.1.trans (a.mono o.1.size)),ax A 0,ax A 1⟩
   obtain⟨⟨T,aP⟩,aU,aV⟩:=z.out w2 (aA _ _);have P:Hid (am w2 w2.drew):=(aA _ _).drew;have y:Hid (am w2 (w2.alloc (.cells #[ab v.1,ab v.2] 109)).drew):=(show Below _ _ _ by go_grown);have O:Hid (∃m n d,(Builtin.append_ #[100,100] 100 #[ae q L r,ae (some ⟨w2.heap.size,0,none⟩) 1 1]).run Tryz.prog (w2.alloc (.cells #[ab v.1,ab v.2] 109)).drew=.ok (ae m (L+1) n) d/\ah d g 7 (ae q L r)/\(∀j,d.frozen? ⟨g,j,none⟩=false)/\(ah d f 0 (ab v.1)/\ah d f 1 (ab v.2))/\∃G,am w1 G/\H v w0 G m n d):=by
    have V:=o.1.trans (y.mono o.1.size);have aF:=rU w2 (.cells #[ab v.1,ab v.2] 109) rfl
    obtain⟨m,n,d,aK,aL,aM,aN,aO⟩:=ak _ V ⟨w2.heap.size,0,none⟩ 1 (λj M aE=>by
     rw[eP,cP];refine(ax aF j).trans ?_;rw[<-aE,<-List.getElem?_toArray]
     rfl)
    have X:=(aI.1 o.2.1).1;have A:=(aN f o.2.2 (aW X y.size)).trans ((y.block f X).trans o.2.1);exact⟨m,n,d,aK,aL,aM,⟨ax A 0,ax A 1⟩,_,V,aO⟩
   obtain⟨m,n,d,J,an,ar,aG,I⟩:=O.out;replace J:=aq J;replace I:=aq I;clear O;have x:w2.drew.cell? ⟨g,7,none⟩=some (ae q L r)/\w2.drew.cell? ⟨f,0,none⟩=some (ab v.1)/\w2.drew.cell? ⟨f,1,none⟩=some (ab v.2):=⟨(z _ P).1.1,(z _ P).2⟩;have al:Hid ((w2.alloc (.cells #[ab v.1,ab v.2] 109)).drew.cell? ⟨g,7,none⟩=some (ae q L r)/\(w2.alloc (.cells #[ab v.1,ab v.2] 109)).drew.cell? ⟨f,0,none⟩=some (ab v.1)/\(w2.alloc (.cells #[ab v.1,ab v.2] 109)).drew.cell? ⟨f,1,none⟩=some (ab v.2)):=⟨(z _ y).1.1,(z _ y).2⟩;refine wp_region_noPanic ?_;refine jU (λw'=>ah w' g 7 (ae q L r)/\ah w' f 0 (ab v.1)/\ah w' f 1 (ab v.2)) 10 (by kernel_rfl) ?_
   try simp only[eh]
   refine bf (i:=0) (v:= ?_) rfl (by kernel_rfl) (by kernel_rfl) (by kernel_rfl) (by kernel_rfl) (λ_ _ _ a=>a) rfl ?_ x ?_;rotate_left
   ·intro w' l
    try dsimp only at l
    go_simp
    try with_reducible rfl
   try simp only[Act.put,ch]
   refine bf (i:=1) (v:= ?_) rfl (by kernel_rfl) (by kernel_rfl) (by kernel_rfl) (by kernel_rfl) (λ_ _ _ a=>a) rfl ?_ x ?_;rotate_left
   ·intro w' l
    try dsimp only at l
    go_simp
    try with_reducible rfl
   try simp only[Act.put]
   refine bf (i:=2) (v:= ?_) rfl (by kernel_rfl) (by kernel_rfl) (by kernel_rfl) (by kernel_rfl) (λ_ _ _ a=>a) rfl ?_ x ?_;rotate_left
   ·intro w' l
    try dsimp only at l
    go_simp
    try with_reducible rfl
   try simp only[Act.put]
   refine bf (i:=3) (v:= ?_) rfl (by kernel_rfl) (by kernel_rfl) (by kernel_rfl) (by kernel_rfl) (λ_ _ _ a=>a) rfl ?_ x ?_;rotate_left
   ·intro w' l
    try dsimp only at l
    go_simp
    try with_reducible rfl
   try simp only[Act.put]
   refine bf (i:=4) (v:= ?_) rfl (by kernel_rfl) (by kernel_rfl) (by kernel_rfl) (by kernel_rfl) (λ_ _ _ a=>a) rfl ?_ x ?_;rotate_left
   ·intro w' l
    try dsimp only at l
    go_simp
    try with_reducible rfl
   try simp only[Act.put]
   refine bf (i:=5) (v:= ?_) rfl (by kernel_rfl) (by kernel_rfl) (by kernel_rfl) (by kernel_rfl) (λ_ _ _ a=>a) rfl ?_ x ?_;rotate_left
   ·intro w' l
    try dsimp only at l
    go_simp
    try with_reducible rfl
   try simp only[Act.put]
   refine dl (i:=6) (by kernel_rfl) rfl rfl (λu p=>?_) (by decide)
   go_simp
   refine p _ _ (λ_=>al) (λaS=>?_);clear p u
   try simp only[Act.put,ch,dz,dy]
   refine dl (i:=7) (by kernel_rfl) rfl rfl (λu p=>?_) (by decide);refine xH (v:=ae q L r) (x':=ae (some ⟨w2.heap.size,0,none⟩) 1 1) _ _ rfl (by simp[Act.eval]) (by simp[Act.eval]) J ?_;refine p _ _ (λ_=>⟨an,aG⟩) (λU=>?_);clear p u
   try simp only[Act.put,ch]
   refine dl (i:=8) (by kernel_rfl) rfl rfl (λu p=>?_) (by decide)
   go_simp
   refine p _ _ (λ_=>U) (λ_=>?_);clear p u
   try simp only[Act.put,ch,dz,dy]
   refine bf (i:=9) (v:= ?_) rfl (by kernel_rfl) (by kernel_rfl) (by kernel_rfl) (by kernel_rfl) (λ_ _ _ a=>a) rfl ?_ U ?_;rotate_left
   ·intro w' l
    try dsimp only at l
    go_simp
    try with_reducible rfl
   try simp only[Act.put,ch]
   have aQ:=ar 7;refine jT (by kernel_rfl) rfl rfl (by kernel_rfl) (λu p=>?_)
   go_simp
   refine p _ _ (NoPanic.normal ?_);clear p u
   try simp only[Act.put,ch,dz,dy]
   go_wp2_with fail;obtain⟨G,aB,aC⟩:=I;exact ay (v:=ab 0) (by simp[results,results85,go_sem]) rfl ⟨λa=>by omega,λ_=>⟨v,0,w0,w1,rfl,s.1,s.2,λa=>absurd rfl a,λ_=>⟨G,m,n,d,aB,aC,rfl⟩⟩⟩
 ·have az:(20:Int)<=(L:Int):=by omega
  go_wp2_with fail;exact ay (v:=ab 2) (by simp[results,results85,go_sem]) rfl ⟨λ_=>⟨rfl,F.1⟩,λa=>by omega⟩
section
variable {base pb:Nat} {name:ap} {room:Int} {N:Nat} {s:Tm (N+1)} {ms:List (Tm (N+1))} {xs:List (Wd×Tm (N+1))} {nk:Nat} {M:aO} {w:ag} {ws:List Wd} {nm:List ap} {sv:Wd} {vs:List Wd} {ma:au} {mc:Nat} {Mh:aO}
def zM(N:Nat)(x:Tm N)(room:Int)(s:Tm N)(ms:List (Tm N)):Int:=if 20<=ms.length then 2 else tb N x room (s::ms)
theorem cR.box0(a:cR base pb name room (N+1) s ms xs nk M w ws nm sv vs ma mc Mh):Mh pb/\pb<w.heap.size:=by
 obtain⟨f,d,e,b,_⟩:=a.heap.box;obtain⟨_,_,_,_,_,_,c,_⟩:=a.heap;exact⟨c,(PL.cells b).2.2.2.2.2⟩
theorem cR.more{v:Wd}{x:Tm (N+1)}(a:cR base pb name room (N+1) s ms [(v,x)] nk M w ws nm sv vs ma mc Mh){g:au}{h:Nat}{i:ag}(C:rm Mh ma (vs++ [v]) w g h i):cR base pb name room (N+1) s (ms++ [x]) [] nk (λb=>M b\/w.heap.size<=b) (i.setCell ⟨pb,7,none⟩ (.slice g (vs++ [v]).length h)) ws nm sv (vs++ [v]) g h Mh/\b9 M w (i.setCell ⟨pb,7,none⟩ (.slice g (vs++ [v]).length h)):=by
 obtain⟨E,r,F⟩:=C;obtain⟨q,G⟩:=a.box0;have D:∀d,ma=some d->¬Mh d.block:=λd c f=>by
  rcases a.mail with⟨e,_⟩|⟨m,t,o,l,j,_⟩
  ·rw[e]at c;cases c
  ·rw[l]at c;rw[<-az c]at f;exact j f
 have A:dX base (PL pb name sv (ae ma vs.length mc)) room ws nm Mh i:=a.heap.kept r λb n _ f=>by
  obtain⟨d,c,rfl⟩:=f;exact D d c n
 have k:=bC i pb 7 (.slice g (vs++ [v]).length h);refine⟨⟨A.turn k λI H mp B=>?_,?_,?_,?_,a.names,λb n=>aj (a.inM b n),λd c=>?_⟩,?_⟩
 ·unfold World.setCell;simp[bQ,B]
 ·rcases E with e|⟨m,t,o,l,j,p,y⟩
  ·exact aj e
  ·exact ak ⟨m,t,o,l,j,(k.block m (aI.1 p).1 λe=>j (by rw[e];exact q)).trans p,y⟩
 ·have:=a.has;simpa using this
 ·simp[a.len]
 ·rcases F d c with⟨u,z,e⟩|e
  ·rw[e];exact aj (a.mailM u z)
  ·exact ak (by omega)
 ·refine b9.trans (r.mono λb f=>?_) k λb _ f=>?_
  ·obtain⟨d,c,rfl⟩:=f;exact a.mailM d c
  ·rw[f];exact a.inM pb q
def Qw(base pb:Nat)(name:ap)(room:Int)(N:Nat)(s:Tm N)(ms:List (Tm N))(x:Tm N)(nk:Nat)(M:aO)(w:ag)(e:Ending)(w':ag):Prop:=
 e=.returned (ab (zM N x room s ms))/\Hid (∃i f g h c d a,cR base pb name room N s (if zM N x room s ms=0 then ms++ [x]else ms) [] (nk+201) (λb=>M b\/w.heap.size<=b) w' i f g h c d a/\b9 M w w')
theorem cR.deliver(z:cR base pb name room (N+1) s ms [] nk M w ws nm sv vs ma mc Mh)(x:Tm (N+1))(aw:In w.heap.size w (N+1) x)(an:cv (λb=>¬M b) (N+1) x)(ag:(aC (N+1) x).length<=2097152)(L:∀b,M b->b<w.heap.size)(am:nk<=49000)(ad:ms.length<=999)(aK:base<=w.heap.size):ao 85 #[aH pb,dB (N+1) x] w (Qw base pb name room (N+1) s ms x nk M w):=by
 have aN:=z.len;obtain⟨aO,ar⟩:=z.box0
 refine(rJ pb x.1.1 x.1.2.1 x.1.2.2 x.2.1.1 x.2.2.length x.2.1.2 vs.length mc ma w
  (λh r p q=>r=tb (N+1) x room (s::ms)/\b9 M w q/\w.heap.size<=p.heap.size/\∃o m n i g k j,cR base pb name room (N+1) s ms (if r=0 then [(h,x)]else []) (nk+201) (λb=>(M b\/p.heap.size<=b)/\b<q.heap.size) q o m n i g k j)
  (λh p v E F G=>b9 M w v/\w.heap.size<=p.heap.size/\∃o m n i g k j,cR base pb name room (N+1) s ms [(h,x)] (nk+201) (λb=>M b\/p.heap.size<=b) v o m n i g k j/\rm j g (i++ [h]) v E F G) ar ?_ ?_ ?_).mono ?_
 ·intro q e;obtain⟨X,V,W,f,_⟩:=(z.later e).heap.box;exact(PL.cells f).2.2.2.1
 ·intro p e;have D:=e.size;refine((z.later e).put x ((aw.below e).mono D) an ag (λb d=>aW (L b d) D) am ad (by omega)).mono ?_;rintro y q ⟨h,rfl,o,m,n,i,g,k,j,f,u⟩;refine⟨h,_,rfl,⟨u.size,λb ay _ aB=>u.block b aB λd=>?_⟩,rfl,(bq e M).trans u λ_ _ d=>d,D,o,m,n,i,g,k,_,f.inside⟩;have:=L b d;omega
 ·rintro h p q ⟨J,u,T,o,m,n,i,g,k,j,f⟩;rw[if_pos rfl]at f;have aL:=f.len;have I:i.length=vs.length:=by omega
  refine⟨g,k,λv e=>?_,λv e sa c au=>?_⟩
  ·obtain⟨X,V,W,l,_⟩:=(f.later e).heap.box;rw[I]at l;exact⟨(PL.cells l).2.2.2.1,(PL.cells l).2.2.2.2.1⟩
  ·have t:=f.later e;have D:=e.size;obtain⟨E,F,G,S,C⟩:=uq 100 t.mail (by omega) (λb d=>aW (f.inM b d).2 D) sa c h au;rw[I]at S;have R:∀b,(∃a,g=some a/\b=a.block)->¬j b/\b<q.heap.size:=λb d=>by
    obtain⟨a,A,rfl⟩:=d;refine⟨λZ=>?_,(f.mailM a A).2⟩;rcases f.mail with⟨y,_⟩|⟨aG,aS,aF,r,ab,_⟩
    ·rw[y]at A;cases A
    ·rw[r]at A;rw[<-az A]at Z;exact ab Z
   obtain⟨ap,aq⟩:=t.box0;have P:G.heap[pb]?=v.heap[pb]? :=C.2.1.block pb aq λd=>(R pb d).1 ap;obtain⟨X,V,W,l,_⟩:=t.heap.box;rw[I]at l;refine⟨E,F,G,S,(bE P 7).trans (PL.cells l).2.2.2.1,λU=>?_,λb ay aA=>C.2.1.block b aA λd=>?_,?_⟩
   ·exact(jD (a:=⟨pb,U,none⟩) P).trans ((PL.cells l).2.2.2.2.1 U)
   ·have:=(R b d).2;omega
   ·exact⟨u.trans (bq e M) λ_ _ d=>d,T,o,m,n,i,g,k,j,t.mono (λb d=>d.1) (av _),C⟩
 ·rintro y aT ⟨af,l⟩;by_cases K:20<=ms.length
  ·obtain⟨rfl,e⟩:=af (by omega);have B:zM (N+1) x room s ms=2:=by simp[zM,K]
   refine⟨by rw[B],ws,nm,sv,vs,ma,mc,Mh,?_,bq e M⟩;rw[B];exact(z.later e).mono (λb d=>aj d) (by omega)
  ·obtain⟨h,r,p,q,rfl,e,⟨J,u,T,o,m,n,i,g,k,j,f⟩,al,ah⟩:=l (by omega);have B:zM (N+1) x room s ms=r:=by simp[zM,K,J]
   refine⟨by rw[B],?_⟩;rw[B];by_cases H:r=0
   ·obtain⟨v,E,F,G,aJ,⟨Q,_,aE,ax,aD,Y,aQ,aR,aa,t,C⟩,rfl⟩:=ah H;have aM:=t.len;have y:vs.length+1=(Y++ [h]).length:=by simp;omega
    obtain⟨ae,ai⟩:=t.more C;rw[y,if_pos H];have aP:=Q.size;refine⟨aE,ax,aD,Y++ [h],E,F,aa,ae.mono (λb d=>?_) (av _),Q.trans ai λb aI d=>?_⟩
    ·rcases d with(d|d)|d
     ·exact aj d
     ·exact ak (by omega)
     ·exact ak (by omega)
    ·rcases d with d|d
     ·exact d
     ·omega
   ·have O:=al H;rw[if_neg H]at f ⊢;refine⟨o,m,n,i,g,k,j,(f.later O).mono (λb d=>?_) (av _),u.trans (bq O M) λ_ _ d=>d⟩;rcases d.1 with d|d
    ·exact aj d
    ·exact ak (by omega)
end
theorem IH(y:ap)(k i:Int)(t:ap)(l:au)(n m:Nat)(room:Int)(w:ag)(r:Bool)(C:Wd->Int->ag->ag->Prop)(H:Hid (∀w1:ag,ao 71 #[af y] w1 λe w'=>e=.returned (.bool r)/\w'=w1))(Q:Hid (r=true->∀w1:ag,ao 63 #[af y] w1 λe w'=>e=.returned (af y)/\am w1 w'))(P:Hid (0<=room/\room<=1000->∀w2,HB (cI.own (w.heap.size+1)) room (ae none 0 0) (ae none 0 0) (.map none) w2->w2.heap.size=w.heap.size+1+1->am w w2->ao 73 #[.pointer (some ⟨w.heap.size+1,0,none⟩),.agg #[ab k,ab i,af t,ae l n m]] w2 λe b=>∃(v:Wd)(c:Int),e=.returned (.tuple #[.agg #[ab v.1,ab v.2],ab c])/\Hid (∃tv lv mv,b.heap[w.heap.size+1]?=some (.cells #[ab room,tv,lv,mv] 107)/\C v c w2 b))):ao 42 #[af y,.agg #[ab k,ab i,af t,ae l n m],ab room] w λe w'=> (r=false->e=.returned (.tuple #[.pointer none,ab 5])/\am w w')/\(r=true->¬(0<=room/\room<=1000)->e=.returned (.tuple #[.pointer none,ab 1])/\am w w')/\ (r=true->0<=room/\room<=1000->∃(v:Wd)(c:Int)(w2 b:ag),Hid (am w w2/\w2.heap.size=w.heap.size+1+1/\C v c w2 b)/\(c≠0->e=.returned (.tuple #[.pointer none,ab c])/\am b w')/\ (c=0->∃(s:ag)(tv lv mv:ar),e=.returned (.tuple #[aH s.heap.size,ab 0])/\am b s/\b.heap[w.heap.size+1]?=some (.cells #[ab room,tv,lv,mv] 107)/\w'=s.alloc (.cells #[af y,ab room,tv,lv,mv,ab v.1,ab v.2,ae none 0 0] 111))):=by
 have O:=aq (yn w (.cells #[ab k,ab i,af t,ae l n m] 31) rfl);have o:Hid (am w (w.alloc (.cells #[ab k,ab i,af t,ae l n m] 31))/\(w.alloc (.cells #[ab k,ab i,af t,ae l n m] 31)).heap.size=w.heap.size+1):=⟨by go_grown,by simp⟩;cases r with
 | false=>
  go_enter func42,ntmps42;go_wp2_with (go_at_call 71;refine(H _).mono ?_;rintro e w1 ⟨rfl,rfl⟩);exact ay (v:=.tuple #[.pointer none,ab 5]) (by simp[results,results42,go_sem]) rfl ⟨λ_=>⟨rfl,o.1⟩,λa=>(by cases a),λa=>(by cases a)⟩
 | true=>
  have R:=aq (Q rfl);go_enter func42,ntmps42;go_wp2_with (go_at_call 71;refine(H _).mono ?_;rintro e w1 ⟨rfl,rfl⟩);refine(Nz _ _).mono ?_;rintro e w2 ⟨p,g⟩;by_cases q:0<=room/\room<=1000;rotate_left
  ·obtain⟨rfl,rfl⟩:=p q;clear p g;go_wp2_with fail;exact ay (v:=.tuple #[.pointer none,ab 1]) (by simp[results,results42,go_sem]) rfl ⟨λa=>(by cases a),λ_ _=>⟨rfl,o.out.1⟩,λ_ a=>absurd a q⟩
  ·obtain⟨rfl,d⟩:=g q;clear p g;replace d:=aq d;rw[o.out.2]at d;have G:Hid (am w w2):=o.1.trans (d.2.2.mono (by first|exact fI _|exact o.1.size));have I:=aq (P q w2 d.1 d.2.1 G);have x:Hid (w2.heap[w.heap.size]?=some (.cells #[ab k,ab i,af t,ae l n m] 31)):=(d.2.2.block _ (by have:=o.2;omega)).trans O;have t0:ah w2 w.heap.size 0 (ab k):=ax x 0;have t1:ah w2 w.heap.size 1 (ab i):=ax x 1;have t2:ah w2 w.heap.size 2 (af t):=ax x 2;have t3:ah w2 w.heap.size 3 (ae l n m):=ax x 3;go_wp2_with fail;refine I.mono ?_;rintro e b ⟨v,c,rfl,F⟩;obtain⟨tv,lv,mv,u,z⟩:=F.out;replace u:=aq u;replace z:=aq (show am w w2/\w2.heap.size=w.heap.size+1+1/\C v c w2 b from⟨G,d.2.1,z⟩);clear F I t0 t1 t2 t3 x d;by_cases E:c=0;rotate_left
   ·have S:¬(0:Int)=c:=λe=>E e.symm;go_wp2_with fail;exact ay (v:=.tuple #[.pointer none,ab c]) (by simp[results,results42,go_sem]) rfl ⟨λa=>(by cases a),λ_ a=>absurd q a,λ_ _=>⟨v,c,w2,b,z,λ_=>⟨rfl,aX⟩,λa=>absurd a E⟩⟩
   ·subst E;go_wp2_with fail;have J:Hid (∃j h,(j=b.alloc (.cells #[ab v.1,ab v.2] 109)/\h=b.heap.size)/\am b j/\j.heap[h]?=some (.cells #[ab v.1,ab v.2] 109)):=⟨_,_,⟨rfl,rfl⟩,aX,aD _ _⟩;obtain⟨j,h,⟨N,M⟩,f⟩:=J.out;rw[<-N,<-M];replace f:=aq f;clear N M J;have B:Hid (∀w':ag,am j w'->w'.cell? ⟨w.heap.size+1,0,none⟩=some (ab room)/\w'.cell? ⟨w.heap.size+1,1,none⟩=some tv/\w'.cell? ⟨w.heap.size+1,2,none⟩=some lv/\w'.cell? ⟨w.heap.size+1,3,none⟩=some mv/\ah w' h 0 (ab v.1)/\ah w' h 1 (ab v.2)):=λw' a=>by
     have p:=(a.block h (aI.1 f.2).1).trans f.2;have L:=(aI.1 u).1;have g:=(a.block _ (aW L f.1.size)).trans ((f.1.block _ L).trans u);exact⟨ax g 0,ax g 1,ax g 2,ax g 3,ax p 0,ax p 1⟩
    obtain⟨T,U,V,W,X,Y⟩:=B.out j (aA _ _);have D:Hid (am j j.drew):=(aA _ _).drew
    go_region_held3 (λw'=>w'.cell? ⟨w.heap.size+1,0,none⟩=some (ab room)/\w'.cell? ⟨w.heap.size+1,1,none⟩=some tv/\w'.cell? ⟨w.heap.size+1,2,none⟩=some lv/\w'.cell? ⟨w.heap.size+1,3,none⟩=some mv/\ah w' h 0 (ab v.1)/\ah w' h 1 (ab v.2)) (first|(go_keep;done)|with_reducible exact B _ D|exact B _ A|exact B _ (A.trans (aX.mono A.size)))
     ((go_at_call 63;refine(R _).mono ?_;rintro e s ⟨rfl,K⟩;have A:=aq (D.trans (K.mono D.size));clear K))
    go_wp2_with fail;exact ay (v:=.tuple #[aH s.heap.size,ab 0]) (by simp[results,results42,go_sem]) rfl ⟨λa=>(by cases a),λ_ a=>absurd q a,λ_ _=>⟨v,0,w2,b,z,λa=>absurd rfl a,λ_=>⟨s,tv,lv,mv,rfl,f.out.1.trans (A.out.mono f.out.1.size),u.out,rfl⟩⟩⟩
def gw(N:Nat)(x:Tm N)(room:Int)(name:ap):Int:=if ei name=false then 5 else if¬(0<=room/\room<=1000)then 1 else jZ N x room []
def PW(N:Nat)(x:Tm N)(room:Int)(name:ap)(w:ag)(e:Ending)(w':ag):Prop:=
 (gw N x room name≠0->e=.returned (.tuple #[.pointer none,ab (gw N x room name)])/\am w w')/\
 (gw N x room name=0->∃a,e=.returned (.tuple #[aH a,ab 0])/\Hid (w.heap.size<=a/\am w w'/\∃g d f c,cR w.heap.size a name room N x [] [] 201 (λb=>w.heap.size<=b/\b<w'.heap.size) w' g d f [] none 0 c))
theorem yj{s:ap}(a:ei s=true):s.size<=2048:=by
 simp only[ei,rh,aK,cr]at a;omega
theorem In.offBelow{B:Nat}{w:ag}:{n:Nat}->{x:Tm n}->In B w n x->cv (λb=>b<B) n x
 | 0,_,k=>k
 | _+1,_,k=>by
  obtain⟨_,a⟩:=k;rcases a with a|⟨b,o,e,c,a⟩
  ·exact aj a
  ·exact ak ⟨b,o,e,c,λi y d=>(a i y d).2.offBelow⟩
theorem Cp(N:Nat)(x:Tm (N+1))(room:Int)(name:ap)(w:ag)(ax:name.size<=9223372036854775807)(O:In w.heap.size w (N+1) x)(ai:(aC (N+1) x).length<=2097152):ao 42 #[af name,dB (N+1) x,ab room] w (PW (N+1) x room name w):=by
 refine(IH name x.1.1 x.1.2.1 x.1.2.2 x.2.1.1 x.2.2.length x.2.1.2 room w (ei name) (λe l o p=>am w p/\zn (N+1) x w.heap.size (cI.own (w.heap.size+1)) room [] [] (λb=>b=w.heap.size+1) e l o p) ?_ ?_ ?_).mono ?_
 ·intro D;exact jh name D ax
 ·intro a D;exact en name D (yj a)
 ·intro d o H aL m;have s:=m.size;have aa:dX w.heap.size (cI.own (w.heap.size+1)) room [] [] (λb=>b=w.heap.size+1) o:=⟨ae none 0 0,ae none 0 0,.map none,H,eU _ _ _ _,⟨eU _ _ _ _,by simp,aj ⟨rfl,rfl,rfl⟩⟩,rfl,λb f=>by simp[Value.ownBlock]at f,λb f=>by simp[Value.ownBlock]at f,λb f=>by simp[mapBlock]at f⟩;refine(vC (N+1) x w.heap.size (cI.own (w.heap.size+1)) room [] [] (λb=>b=w.heap.size+1) o aa ((O.below m).mono s) ((In.offBelow O).mono λb c f=>by omega) ai s d.1 d.2 (by simp) (by simp)).mono ?_;intro f p aw;obtain⟨e,l,rfl,i⟩:=Am aw;have I:∀{E:aO},b9 E o p->(∀b,E b->w.heap.size<=b)->am w p:=λk al=>⟨k.os.trans m.os,k.tape.trans m.tape,k.output.trans m.output,aF s k.size,λb L=>(k.block b (aW L s) λc=>by have:=al b c;omega).trans (m.block b L)⟩;refine⟨e,l,rfl,?_⟩;by_cases g:l=0
  ·obtain⟨_,_,t,P⟩:=i.2.2 g;obtain⟨C,A,B,ah,_⟩:=t;exact⟨C,A,B,ah.2,I P λb c=>by omega,i⟩
  ·have n:=(i.2.1 g).2;exact⟨_,_,_,(n.block _ (by omega)).trans H.2,I (bq n λ_=>False) λb c=>c.elim,i⟩
 ·rintro f aP ⟨X,Y,Z⟩;cases hn:ei name with
  | false=>
   have h:gw (N+1) x room name=5:=by simp[gw,hn]
   refine⟨λ_=>by rw[h];exact X hn,λa=>by rw[h]at a;cases a⟩
  | true=>
   by_cases d:0<=room/\room<=1000;rotate_left
   ·have h:gw (N+1) x room name=1:=by simp[gw,hn,d]
    refine⟨λ_=>by rw[h];exact Y hn d,λa=>by rw[h]at a;cases a⟩
   ·obtain⟨e,l,o,p,Q,d1,d2⟩:=Z hn d;obtain⟨aH,aM,n,i⟩:=Q;have h:gw (N+1) x room name=l:=by rw[i.1];simp[gw,hn,d]
    have M:=n.size;rw[PW,h];refine⟨λg=>⟨(d1 g).1,n.trans ((d1 g).2.mono M)⟩,λg=>?_⟩;obtain⟨j,C,A,B,rfl,r,J,rfl⟩:=d2 g;have aK:=r.size;obtain⟨K,ay,t,P⟩:=i.2.2 g;have au:=t.nodup;have ad:=(t.later r);obtain⟨y,u,v,R,S,T,aG,U,V,W⟩:=ad;have aq:=(aI.1 J).1;have F:(Obj.cells #[ab room,y,u,v] 107)=(Obj.cells #[ab room,C,A,B] 107):=az (R.2.symm.trans ((r.block _ aq).trans J));simp only[Obj.cells.injEq,Array.mk.injEq,kY,and_true,true_and]at F;obtain⟨rfl,rfl,rfl⟩:=F;have z:am j (j.alloc (.cells #[af name,ab room,y,u,v,ab e.1,ab e.2,ae none 0 0] 111)):=aX;have aA:(j.alloc (.cells #[af name,ab room,y,u,v,ab e.1,ab e.2,ae none 0 0] 111)).heap.size=j.heap.size+1:=by simp
    refine⟨j.heap.size,rfl,by omega,(n.trans (r.mono M)).trans (z.mono (by omega)),(bj (N+1) x [] []).2.1,(bj (N+1) x [] []).2.2,e,λb=>b=j.heap.size\/(w.heap.size<=b/\b<j.heap.size),?_⟩;have an:kp (N+1) [] [] room [] ([]:List (Tm (N+1))):=⟨⟨rfl,λaN e aB a=>by simp at a⟩,by simp,λaB a=>by simp at a,by simp,by simp;exact d.1,d.1,d.2,by simp⟩;have ar:=an.lay x K au;have av:=(ji (N+1) x [] []).2;have aJ:=oB K.1;simp only[iP]at av;refine⟨⟨y,u,v,⟨⟨rfl,ak rfl⟩,aD _ _⟩,ey S (bq z λ_=>False) (λ_ _ c=>c),T.kept (bq z λ_=>False) (λ_ _ c=>c) (λ_ _ c=>c),aj rfl,λb c=>ak ?_,λb c=>ak ?_,λb c=>ak ?_⟩,aj ⟨rfl,rfl,rfl⟩,?_,rfl,by omega,λb c=>?_,λaE a=>by cases a⟩
    ·have a:=U b c;have G:=a.2;rcases a.1 with q|q<;>exact⟨by omega,by omega⟩
    ·have a:=V b c;have G:=a.2;rcases a.1 with q|q<;>exact⟨by omega,by omega⟩
    ·have a:=W b c;have G:=a.2;rcases a.1 with q|q<;>exact⟨by omega,by omega⟩
    ·rw[ay];exact ar
    ·rw[aA];rcases c with c|c<;>exact⟨by omega,by omega⟩
def uL(w:ag)(c:Nat)(a b:Int):ag:=(w.setCell ⟨c,5,none⟩ (ab a)).setCell ⟨c,6,none⟩ (ab b)
def Qu(b d e:Nat)(t0 t1:Int)(t2:ap)(g:au)(i h:Nat)(s0 s1:Int)(f:ap)(sa:au)(sl sc:Nat)(W:ag):Prop:=
 W.heap[d]?=some (.cells #[ab t0,ab t1,af t2,ae g i h] 31)/\W.heap[e]?=some (.cells #[ab s0,ab s1,af f,ae sa sl sc] 31)/\(∃a,ah W b 5 (ab a))/\(∃a,ah W b 6 (ab a))/\∀c,W.frozen? ⟨b,c,none⟩=false
theorem A8(t0 t1:Int)(t2:ap)(m:au)(o n:Nat)(c:Nat)(w:ag)(S:Int->Int->ap->au->Nat->Nat->ag->Prop)(P1:ag->Wd->Int->ag->Prop)(R:Bool->ag->Prop)(aK:Hid (∀W,am w W->ao 34 #[aH c] W λe w'=>∃s0 s1 h sa sl sc,e=.returned (.agg #[ab s0,ab s1,af h,ae sa sl sc])/\Hid (am W w'/\S s0 s1 h sa sl sc w')))(aC:Hid (∀W,am w W->(∃a,ah W c 5 (ab a))/\(∃a,ah W c 6 (ab a))/\(∀j,W.frozen? ⟨c,j,none⟩=false)/\c<w.heap.size))(aJ:Hid (∀s0 s1 h sa sl sc aR H g i,S s0 s1 h sa sl sc aR->am aR H->am w H->w.heap.size<=g->w.heap.size<=i->Qu c g i t0 t1 t2 m o n s0 s1 h sa sl sc (uL H c 1 0)->ao 123 #[aH c,.agg #[ab t0,ab t1,af t2,ae m o n]] (uL H c 1 0) λe w'=>∃(v:Wd)(r:Int),e=.returned (.tuple #[.agg #[ab v.1,ab v.2],ab r])/\Hid (Qu c g i t0 t1 t2 m o n s0 s1 h sa sl sc w'/\P1 H v r w'/\ (r=0->∀W,am w' W->R true (uL W c v.1 v.2))/\ (r≠0->∀W d,am w' W->w'.heap.size<=d->d<W.heap.size->ao 123 #[aH c,.agg #[ab s0,ab s1,af h,ae sa sl sc]] W λe L=>∃(v2:Wd)(aT:Int),e=.returned (.tuple #[.agg #[ab v2.1,ab v2.2],ab aT])/\Hid ((∀a8,W.heap[d]?=some a8->L.heap[d]?=some a8)/\((∃a,ah L c 5 (ab a))/\(∃a,ah L c 6 (ab a))/\∀j,L.frozen? ⟨c,j,none⟩=false)/\∀aQ,bB (λb=>b=d) L aQ->R false (uL aQ c v2.1 v2.2)))))):ao 118 #[aH c,.agg #[ab t0,ab t1,af t2,ae m o n]] w λe w'=>∃t,e=.returned (.bool t)/\Hid (R t w'):=by
 have aM:Hid (∃Y l,(Y=w.alloc (.cells #[ab t0,ab t1,af t2,ae m o n] 31)/\l=w.heap.size)/\am w Y/\Y.heap[l]?=some (.cells #[ab t0,ab t1,af t2,ae m o n] 31)/\w.heap.size<=l):=⟨_,_,⟨rfl,rfl⟩,aS _ _,aD _ _,av _⟩;go_enter func118,ntmps118;go_wp2_with fail;obtain⟨Y,g,⟨a4,a3⟩,aV,J,a0⟩:=aM.out;rw[<-a4,<-a3];have aa:=aq aV;have x:=aq J;have aE:=aq a0;clear a4 a3 aV J a0 aM;refine(aK _ aa).mono ?_;rintro e Z ⟨s0,s1,h,sa,sl,sc,rfl,M⟩;have O:=aq (aa.trans (M.1.mono aa.size));have aN:Hid (∃k l,(k=Z.alloc (.cells #[ab s0,ab s1,af h,ae sa sl sc] 31)/\l=Z.heap.size)/\am Z k/\k.heap[l]?=some (.cells #[ab s0,ab s1,af h,ae sa sl sc] 31)/\w.heap.size<=l/\k.heap[g]?=some (.cells #[ab t0,ab t1,af t2,ae m o n] 31)):=by
  have bg:=(aI.1 x).1;have aU:=(M.1.block g bg).trans x;exact⟨_,_,⟨rfl,rfl⟩,aS _ _,aD _ _,O.size,((aS _ _).block g (aI.1 aU).1).trans aU⟩
 have aL:=aq M.2;clear M aK x;go_upto_region 2 with fail;obtain⟨k,i,⟨a5,s⟩,aw,aX,a1,J⟩:=aN.out;rw[<-a5,<-s];have ad:=aq (O.trans (aw.mono O.size));have aB:=aq aw;have al:=aq aX;have x:=aq J;have aF:=aq a1;clear a5 s aw aX a1 J aN;obtain⟨⟨bn,bb⟩,⟨bo,bc⟩,T,bs⟩:=aC.out k ad;have f5:=T 5;have f6:=T 6;have u:Hid (Qu c g i t0 t1 t2 m o n s0 s1 h sa sl sc (uL k c 1 0)):=by
  have aZ:bB (λb=>b=c) k (uL k c 1 0):=bB.trans (bK k c 5 _) (bK _ c 6 _) λ_ _ e=>e;refine⟨(aZ.block g (aI.1 x).1 (by have:=aE.out;omega)).trans x,(aZ.block i (aI.1 al).1 (by have:=aF.out;omega)).trans al,⟨1,?_⟩,⟨0,?_⟩,λj=>?_⟩
  ·exact(dK 5 (by decide)).trans (iy _ _ _ bb)
  ·exact iy _ _ _ ((dK 6 (by decide)).trans bc)
  ·unfold uL;rw[g9,g9];exact T j
 have ak:=aq (aJ s0 s1 h sa sl sc Z k g i aL aB ad aE aF u);clear aJ T aC;go_upto_region 3 with fail;obtain⟨E,V⟩:∃E,E=uL k c 1 0:=⟨_,rfl⟩;rw[<-V]at ak u;unfold uL at V;rw[<-V];have bj:ah E g 0 (ab t0):=ai u.1 0;have bk:ah E g 1 (ab t1):=ai u.1 1;have bl:ah E g 2 (af t2):=ai u.1 2;have bm:ah E g 3 (ae m o n):=ai u.1 3;clear V bb bc f5 f6 x al ad aB O aL u;go_wp2_with fail;refine ak.mono ?_;rintro e F ⟨v,r,rfl,q⟩;have aO:Hid (∃f l,(f=F.alloc (.cells #[ab v.1,ab v.2] 109)/\l=F.heap.size)/\am F f/\f.heap[l]?=some (.cells #[ab v.1,ab v.2] 109)/\F.heap.size<=l):=⟨_,_,⟨rfl,rfl⟩,aS _ _,aD _ _,av _⟩;go_upto_region 4 with fail;obtain⟨f,d,⟨a6,z⟩,aW,aY,a2⟩:=aO.out;rw[<-a6,<-z];have C:=aq aW;have Q:=aq aY;have aG:=aq a2;clear a6 z aW aY a2 aO bj bk bl bm ak;have P:Hid (c<F.heap.size):=by
  obtain⟨a,ar⟩:=q.out.1.2.2.1;exact iw F ⟨c,5,none⟩ ar
 have bd:Hid ((∃a,ah f c 5 (ab a))/\(∃a,ah f c 6 (ab a))/\∀j,f.frozen? ⟨c,j,none⟩=false):=by
  obtain⟨_,_,⟨a,ar⟩,⟨b,bf⟩,y⟩:=q.out.1;refine⟨⟨a,(C.cell (p:=⟨c,5,none⟩) P).trans ar⟩,⟨b,(C.cell (p:=⟨c,6,none⟩) P).trans bf⟩,λj=>?_⟩;have y:=y j;unfold World.frozen? at y ⊢;rw[C.out.block c P.out];exact y
 have bp:ah f d 0 (ab v.1):=ai Q 0;have bq:ah f d 1 (ab v.2):=ai Q 1;by_cases I:r=0
 ·have G:=aq (q.2.2.1 I f C);unfold uL at G;obtain⟨⟨a,X⟩,⟨b,az⟩,D⟩:=bd;have f5:=D 5;have f6:=D 6;clear D q;subst I;go_wp2_with fail
  go_ret
  exact⟨true,rfl,G⟩
 ·have br:¬(0:Int)=r:=λe=>I e.symm;have be:=aq (q.2.2.2 I f d C aG (aI.1 Q).1);have s:=(C.block i (aI.1 q.1.2.1).1).trans q.1.2.1;have bv:ah f i 0 (ab s0):=ai s 0;have bw:ah f i 1 (ab s1):=ai s 1;have bx:ah f i 2 (af h):=ai s 2;have bz:ah f i 3 (ae sa sl sc):=ai s 3;clear s q;go_wp2_with fail;refine be.mono ?_;rintro e A ⟨v2,aT,rfl,N⟩;have z:=N.1 _ Q;have a9:ah A d 0 (ab v.1):=ai z 0;have ba:ah A d 1 (ab v.2):=ai z 1;have aA:∀j,A.frozen? ⟨d,j,none⟩=false:=λj=>by simp[World.frozen?,z]
  have bh:=aA 0;have bi:=aA 1;have aP:Hid (∃B,B=(A.setCell ⟨d,0,none⟩ (ab v2.1)).setCell ⟨d,1,none⟩ (ab v2.2)/\(ah B d 0 (ab v2.1)/\ah B d 1 (ab v2.2))/\bB (λb=>b=d) A B):=by
   refine⟨_,rfl,⟨?_,?_⟩,bB.trans (bK A d 0 _) (bK _ d 1 _) λ_ _ e=>e⟩
   ·exact(dK 0 (by decide)).trans (iy _ _ _ a9)
   ·exact iy _ _ _ ((dK 1 (by decide)).trans ba)
  clear aA z;go_upto_region 6 with fail;obtain⟨B,a7,⟨y0,y1⟩,K⟩:=aP.out;rw[<-a7];have G:=aq (N.2.2 B K);unfold uL at G;obtain⟨⟨a,X⟩,⟨b,az⟩,D⟩:=N.out.2.1;have U:=iw A ⟨c,5,none⟩ X;have ax:c≠d:=by have:=P.out;have:=aG.out;omega
  have bt:=(K.cell 5 U ax).trans X;have bu:=(K.cell 6 U ax).trans az;have an:∀j,B.frozen? ⟨c,j,none⟩=false:=λj=>by
   have y:=D j;unfold World.frozen? at y ⊢;rw[K.block c U ax];exact y
  have f5:=an 5;have f6:=an 6;clear a7 aP K X az D an N a9 ba bh bi U;go_wp2_with fail;exact ay (v:=.bool (r==0)) (by simp[results,results118,go_sem]) rfl (aj ⟨bY (by simpa using I),G.out⟩)
def fR(n m:Nat):Option (Tm n)->Option (Tm m)->Prop
 | none,none=>True
 | some x,some y=>aB n x m y=true
 | _,_=>False
theorem nV{n m k l:Nat}{o:Option (Tm n)}{p:Option (Tm m)}{f:Tm n->Option (Tm k)}{g:Tm m->Option (Tm l)}(a:fR n m o p)(b:∀x y,aB n x m y=true->fR k l (f x) (g y)):fR k l (o.bind f) (p.bind g):=by
 cases o with
 | none=>
  cases p with
  | none=>trivial
  | some _=>exact a.elim
 | some x=>
  cases p with
  | none=>exact a.elim
  | some y=>exact b x y a
theorem jk{n m N M:Nat}(c:n<=N)(b:m<=M){x:Tm n}{y:Tm m}(d:aJ ⟨n,x⟩)(e:aJ ⟨m,y⟩)(a:aB n x m y=true):aB N (aZ N n x) M (aZ M m y)=true:=
 bP _ _ _ _ _ _ (fN N n c x d) (bP _ _ _ _ _ _ a (dS _ _ _ _ (fN M m b y e)))
theorem lH:(n:Nat)->(x:Tm n)->(m:Nat)->(y:Tm m)->aB n x m y=true->b8 ⟨n,x⟩=b8 ⟨m,y⟩/\pY n x=pY m y
 | 0,_,_,_,h=>by simp[aB]at h
 | _+1,_,0,_,h=>by simp[aB]at h
 | n+1,x,m+1,y,h=>by
  simp only[aB,aK,co]at h;exact⟨h.1.1.1,h.1.1.2⟩
theorem yP{N M:Nat}{a c:Tm N}{b d:Tm M}(h:aB N a M b=true)(i:aB N c M d=true):fR (N+1) (M+1) (ut N a c) (ut M b d):=by
 have e:=lH _ _ _ _ h;have f:=lH _ _ _ _ i;have g:AE N a c=AE M b d:=by
  unfold AE;rw[e.1,e.2,f.1,f.2]
 unfold ut;rw[<-g,<-e.2,<-f.2];cases AE N a c
 ·simp[fR]
 ·simp[fR,aB,bW,aG]
theorem uY{i:Type}{N M:Nat}(f:i->Option (Tm N))(g:i->Option (Tm M)):(p:List i)->(∀a∈p,fR N M (f a) (g a))->fR (N+1) (M+1) ((cV f p).map (dr N)) ((cV g p).map (dr M))/\((cV f p=none/\cV g p=none)\/∃l r,cV f p=some l/\cV g p=some r/\aG (λx y=>aB N x M y) l r=true)
 | [],_=>⟨by simp[cV,fR,aB,dr,aG],ak ⟨[],[],rfl,rfl,rfl⟩⟩
 | a::p,h=>by
  have b:=h a (by simp);have n:=(uY f g p λx o=>h x (by simp[o])).2;simp only[cV];cases e1:f a with
  | none=>
   rw[e1]at b;cases c:g a with
   | none=>simp[fR]
   | some _=>rw[c]at b;exact b.elim
  | some m=>
   rw[e1]at b;cases c:g a with
   | none=>rw[c]at b;exact b.elim
   | some v=>
    rw[c]at b;have j:aB N m M v=true:=b;rcases n with⟨d,e⟩|⟨l,r,d,e,k⟩
    ·rw[d,e];simp[fR]
    ·rw[d,e];exact⟨by simp[fR,aB,dr,aG,j,k],ak ⟨m::l,v::r,rfl,rfl,by simp[aG,j,k]⟩⟩
theorem sB(m:Nat)(b:List (Tm m))(f:Nat)(a:List (Tm f))(self:Int)(i:aG (λx y=>aB m x f y) b a=true)(p:∀y∈b,aJ ⟨m,y⟩)(q:∀y∈a,aJ ⟨f,y⟩):(n:Nat)->(x:Tm n)->aJ ⟨n,x⟩->fR (m+n) (f+n) (vl m b self n x) (vl f a self n x)
 | 0,_,_=>trivial
 | n+1,x,hx=>by
  have z:=cT _ _ _ i;have w:aB (n+1) x (n+1) x=true:=fO _ _ hx;unfold vl;by_cases k:x.1.1=5
  ·rw[if_pos k,if_pos k];cases e:b[x.1.2.1.toNat]? with
   | none=>
    have g:a[x.1.2.1.toNat]?=none:=by
     rw[List.getElem?_eq_none_iff]at e ⊢;omega
    rw[g];trivial
   | some y=>
    obtain⟨u,_⟩:=aY.1 e;have g:a[x.1.2.1.toNat]?=some a[x.1.2.1.toNat]:=aN (by omega);rw[g];have s:aB m y f a[x.1.2.1.toNat]=true:=jQ _ _ _ i _ _ _ e g;simp only[dP];rw[<-(lH _ _ _ _ s).1];by_cases d:b8 ⟨m,y⟩=6
    ·rw[if_pos d,if_pos d];trivial
    ·rw[if_neg d,if_neg d];exact jk (by omega) (by omega) (p y (aL e)) (q _ (aL g)) s
  ·rw[if_neg k,if_neg k];by_cases d:x.1.1=6
   ·rw[if_pos d,if_pos d];trivial
   ·rw[if_neg d,if_neg d];by_cases j:x.1.1=4
    ·rw[if_pos j,if_pos j];by_cases r:uC n x.2.2 qp 0=true
     ·rw[if_pos r,if_pos r];simp[fR,aB,bW,aG]
     ·rw[if_neg r,if_neg r];by_cases l:uC n x.2.2 xd 2=true
      ·rw[if_pos l,if_pos l];cases e1:x.2.2[1]? with
       | none=>trivial
       | some h=>
        cases g:x.2.2[2]? with
        | none=>trivial
        | some c=>
         simp only[dP];exact nV (sB m b f a self i p q n h (bi n x h hx (aL e1))) λA C u=>nV (sB m b f a self i p q n c (bi n x c hx (aL g))) λB D v=>yP u v
      ·rw[if_neg l,if_neg l];by_cases o:uC n x.2.2 Df 1=true
       ·rw[if_pos o,if_pos o];cases e1:x.2.2[1]? with
        | none=>trivial
        | some h=>
         have t:=bi n x h hx (aL e1);simp only[dP];cases aT n h
         ·simp[fR]
         ·exact jk (by omega) (by omega) t t (fO _ _ t)
       ·rw[if_neg o,if_neg o];exact(uY _ _ x.2.2 λy s=>sB m b f a self i p q n y (bi n x y hx s)).1
    ·rw[if_neg j,if_neg j];exact jk (by omega) (by omega) hx hx w
def JA:(D:Nat)->(n:Nat)->Tm n->Tm D
 | 0,_,_=>()
 | _+1,0,_=>((0,0,.empty),(none,0),[])
 | D+1,n+1,x=>(x.1,(none,0),x.2.2.map λy=>JA D n y)
theorem JZ:(D:Nat)->(n:Nat)->(x:Tm n)->(m:Nat)->(y:Tm m)->aB n x m y=true->JA D n x=JA D m y
 | 0,_,_,_,_,_=>rfl
 | D+1,0,_,_,_,h=>by simp[aB]at h
 | D+1,n+1,_,0,_,h=>by simp[aB]at h
 | D+1,n+1,x,m+1,y,h=>by
  obtain⟨c,d⟩:=bN h;have e:=kP _ (λa=>JA D n a) (λb=>JA D m b) _ _ (λa _ b f=>JZ D n a m b f) d;simp only[JA,c,e];rfl
theorem Bv{n:Nat}:(l:List (Tm n))->(m:Int)->m<=l.foldl (λm y=>max m (fP n y)) m/\∀y∈l,fP n y<=l.foldl (λm y=>max m (fP n y)) m
 | [],m=>⟨jy _,λy b=>by simp at b⟩
 | a::l,m=>by
  obtain⟨d,c⟩:=Bv l (max m (fP n a));simp only[gP];refine⟨by omega,λy b=>?_⟩;rcases cU.1 b with rfl|b
  ·omega
  ·exact c y b
theorem oC{n:Nat}{x:Tm (n+1)}(e:aJ ⟨n+1,x⟩){y:Tm n}(c:y∈x.2.2):fP n y+1<=fP (n+1) x:=by
 have d:x.1.1=4:=by
  have b:=e _ (nv ..);simp only[cN,aK,iO,co,kU,decide_eq_false_iff_not]at b;rcases b.2 with a|a
  ·exact a
  ·have:=List.length_pos_of_mem c;omega
 have:=(Bv x.2.2 0).2 y c;simp only[fP,if_pos d];omega
theorem Bb:(D:Nat)->(n:Nat)->(x:Tm n)->aJ ⟨n,x⟩->fP n x<D->aB D (JA D n x) n x=true
 | _,0,_,h,_=>(dv h).elim
 | 0,n+1,x,_,h=>by
  have:=(gt (n+1) x).1;omega
 | D+1,n+1,x,hr,h=>dm rfl (jo _ _ _ λy a=>Bb D n y (bi n x y hr a) (by
  have:=oC hr a
  omega))
theorem jN:(D:Nat)->(n:Nat)->(x:Tm n)->aJ ⟨n,x⟩->fP n x<D->aB D (aZ D n x) n x=true
 | _,0,_,h,_=>(dv h).elim
 | 0,n+1,x,_,h=>by
  have:=(gt (n+1) x).1;omega
 | D+1,n+1,x,hr,h=>dm rfl (jo _ _ _ λy a=>jN D n y (bi n x y hr a) (by
  have:=oC hr a
  omega))
theorem KX(D n:Nat)(x:Tm n)(w:ag)(b o:Nat)(g:0<D)(k:dC w b o n x):dC w b o D (aZ D n x):=by
 cases n with
 | zero=>exact k.elim
 | succ n=>
  obtain⟨D,rfl⟩:∃a,D=a+1:=⟨D-1,by omega⟩;obtain⟨c,d,e,f⟩:=k;exact⟨c,d,e,by simpa [aZ]using f⟩
theorem sZ:(D n:Nat)->(x:Tm n)->(B:Nat)->(w:ag)->aJ ⟨n,x⟩->fP n x<D->In B w n x->In B w D (aZ D n x)
 | _,0,_,_,_,_,_,k=>k.elim
 | 0,n+1,x,_,_,_,h,_=>by
  have:=(gt (n+1) x).1;omega
 | D+1,n+1,x,B,w,hr,h,k=>by
  obtain⟨l,a⟩:=k;refine⟨by simpa [aZ]using l,?_⟩;rcases a with a|⟨b,o,e,j,a⟩
  ·exact aj (by simp[aZ,a])
  ·refine ak ⟨b,o,e,j,λi y g=>?_⟩;simp only[aZ,dh]at g;obtain⟨c,d,rfl⟩:=cD.1 g;have f:=aL d;have p:=oC hr f;have m:=(gt n c).1;exact⟨KX D n c w b _ (by omega) (a i c d).1,sZ D n c B w (bi n x c hr f) (by omega) (a i c d).2⟩
theorem Ab(D n:Nat)(x:Tm (n+1)):dB (D+1) (aZ (D+1) (n+1) x)=dB (n+1) x:=by
 simp[dB,aZ]
theorem uE:(D n:Nat)->(x:Tm n)->(P:aO)->aJ ⟨n,x⟩->fP n x<D->cv P n x->cv P D (aZ D n x)
 | _,0,_,_,h,_,_=>(dv h).elim
 | 0,n+1,x,_,_,h,_=>by
  have:=(gt (n+1) x).1;omega
 | D+1,n+1,x,P,hr,h,k=>by
  rcases k with k|⟨b,o,e,g,k⟩
  ·exact aj (by simp[aZ,k])
  ·refine ak ⟨b,o,e,g,λi y d=>?_⟩;simp only[aZ,dh]at d;obtain⟨a,f,rfl⟩:=cD.1 d;have c:=aL f;have j:=oC hr c;exact uE D n a P (bi n x a hr c) (by omega) (k i a f)
abbrev Tc:Type:=Tm 13
def cn(n:Nat)(x:Tm n):Tc:=JA 13 n x
theorem iF{n m:Nat}{x:Tm n}{y:Tm m}(a:aB n x m y=true):cn n x=cn m y:=JZ 13 n x m y a
theorem eD{n:Nat}{x:Tm n}(a:bG n x=0):aB 13 (cn n x) n x=true:=by
 obtain⟨b,c,_⟩:=bJ.1 a;exact Bb 13 n x (aU.2 b) (by omega)
theorem MW{n:Nat}{x:Tm n}(a:bG n x=0):cn 13 (cn n x)=cn n x:=iF (eD a)
theorem nK{n:Nat}{x:Tm n}(a:bG n x=0):bG 13 (cn n x)=0:=by rw[bZ (eD a),a]
theorem FF{n:Nat}{x:Tm n}(a:bG n x=0):sz 13 (cn n x)=sz n x:=mm _ _ _ _ (eD a)
theorem kI{n:Nat}{x:Tm n}(a:bG n x=0):aT 13 (cn n x)=aT n x:=cO _ _ _ _ (eD a)
theorem EM{n m:Nat}{x:Tm n}{y:Tm m}(c:bG n x=0)(d:bG m y=0)(b:cn n x=cn m y):aB n x m y=true:=by
 have a:=dS _ _ _ _ (eD c);rw[b]at a;exact bP _ _ _ _ _ _ a (eD d)
theorem QN{n m:Nat}:(p:List (Tm n))->(q:List (Tm m))->aG (λx y=>aB n x m y) p q=true->p.map (cn n)=q.map (cn m):=λp q a=>kP _ _ _ p q (λ_ _ _ b=>iF b) a
theorem tR{n m:Nat}:(p:List (Tm n))->(q:List (Tm m))->(∀x∈p,bG n x=0)->(∀y∈q,bG m y=0)->p.map (cn n)=q.map (cn m)->aG (λx y=>aB n x m y) p q=true
 | [],[],_,_,_=>rfl
 | [],_::_,_,_,h=>by simp at h
 | _::_,[],_,_,h=>by simp at h
 | x::p,y::q,hp,hq,h=>by
  simp only[aV,kY]at h;simp only[aG,aK];exact⟨EM (hp x (by simp)) (hq y (by simp)) h.1,tR p q (λa b=>hp a (bT _ b)) (λa b=>hq a (bT _ b)) h.2⟩
def nJ:List An:=ov 1 (List.replicate 4 fC)
def P5(a:An):Tc:=cn a.1 a.2
def lT{n:Nat}(c:Cl (n+1))(s m:Tc):Option (List Tc):=(iB (n+1) c.1.1 13 s nJ).bind λb=>(iB (n+1) c.1.2.1 13 m b).map λa=>a.map P5
def mO{n:Nat}(s m:Tc):List (Cl (n+1))->Option (Cl (n+1)×List Tc)
 | []=>none
 | c::l=>match lT c s m with
  | some b=>some (c,b)
  | none=>mO s m l
def sP{n:Nat}(l:List (Cl (n+1)))(s:Tc):List Tc->Nat->Option (Nat×Cl (n+1)×List Tc)
 | [],_=>none
 | m::ms,i=>match mO s m l with
  | some x=>some (i,x)
  | none=>sP l s ms (i+1)
theorem Im{x y:An}(a:eG x y=true)(d:Dx y):Dx x:=by
 obtain⟨b,c⟩:=d;refine⟨(bZ a).trans b,?_⟩;rw[vI a,cO _ _ _ _ a];exact c
theorem ti{d β:Type}(f:d->β->Bool):(p:List d)->(q:List β)->aG f p q=true->∀x∈p,∃y∈q,f x y=true
 | [],_,_,x,c=>by simp at c
 | _::_,[],h,_,_=>by simp[aG]at h
 | a::p,b::q,h,x,c=>by
  simp only[aG,aK]at h;rcases cU.1 c with rfl|c
  ·exact⟨b,by simp,h.1⟩
  ·obtain⟨y,g,e⟩:=ti f p q h.2 x c;exact⟨y,bT _ g,e⟩
theorem Io{p q:List An}(a:aG eG p q=true)(b:∀y∈q,Dx y):∀x∈p,Dx x:=λx c=>by
 obtain⟨y,d,e⟩:=ti _ _ _ a x c;exact Im e (b y d)
theorem sK{n:Nat}:(l:List (Tm n))->(b:List An)->(∀y∈b,aJ y/\y.1<=n)->aG (λx y=>aB n x n y) l (b.map λa=>aZ n a.1 a.2)=true->aG eG (ov n l) b=true
 | [],[],_,_=>rfl
 | [],_::_,_,h=>by simp[aG]at h
 | _::_,[],_,h=>by simp[aG]at h
 | x::l,a::b,hb,h=>by
  simp only[aV,aG,aK]at h;simp only[ov,aV,aG,aK];obtain⟨c,d⟩:=hb a (by simp);exact⟨bP _ _ _ _ _ _ h.1 (fN n a.1 d a.2 c),sK l b (λy e=>hb y (bT _ e)) h.2⟩
theorem J8{p q:List An}(a:aG eG p q=true):p.map P5=q.map P5:=kP _ _ _ p q (λ_ _ _ b=>iF b) a
theorem uZ:aG eG nJ nJ=true:=by
 refine jp _ _ λa b=>?_;exact fO _ _ (rZ (DA a b))
theorem Oq{n:Nat}{x:Tm n}(a:bG n x=0)(b:aT n x=true):Dx ⟨n,x⟩:=⟨a,ak b⟩
theorem cv.both{P Q:aO}:{n:Nat}->{x:Tm n}->cv P n x->cv Q n x->cv (λb=>P b/\Q b) n x
 | 0,_,p,_=>p
 | _+1,_,p,k=>by
  rcases p with p|⟨b,o,e,g,p⟩
  ·exact aj p
  ·rcases k with k|⟨j,l,a,h,k⟩
   ·exact aj k
   ·rw[e]at a;injection a with a;injection a with d f;subst d f;exact ak ⟨b,o,e,⟨g,h⟩,λi y c=>(p i y c).both (k i y c)⟩
structure rj (D:Nat) (l:List (Tm D)) (B:List Tc) (b0:Nat) (w':ag) (bg bc:Nat):Prop where
 bnd:gE D l=true
 tells:l.map (cn D)=B
 cap:4<=bc/\bc<=maxLen
 new:b0<=bg/\bg<w'.heap.size
 at':∀(i:Nat)(y:Tm D),l[i]?=some y->dC w' bg (i*4) D y/\In w'.heap.size w' D y/\cv (λq=>b0<=q/\q≠bg) D y
 free:∀j,w'.frozen? ⟨bg,j,none⟩=false
def Ol{n:Nat}(c:Cl (n+1))(s m:Tc)(w:ag)(e:Ending)(w':ag):Prop:=
 ∃b len f g,e=.returned (.tuple #[ae b len f,.bool g])/\Hid (am w w'/\g=(lT c s m).isSome/\∀a,lT c s m=some a->len=4/\∃h l d,b=some ⟨d,0,none⟩/\rj h l a w.heap.size w' d f)
theorem Kt{n m k:Nat}(c:Cl (n+1))(s:Tm (m+1))(t:Tm (k+1))(R:bG (n+1) c.1.1=0)(S:bG (n+1) c.1.2.1=0)(B:bG (m+1) s=0)(T:aT (m+1) s=true)(C:bG (k+1) t=0)(U:aT (k+1) t=true){w w':ag}{e:Ending}(Q:JF (iB (n+1) c.1.1 (m+1) s nJ) (iB (n+1) c.1.2.1 (k+1) t) w e w'):Ol c (cn (m+1) s) (cn (k+1) t) w e w':=by
 obtain⟨K,len,P,aq,rfl,J⟩:=Q;obtain⟨V,Z,ae⟩:=J;refine⟨K,len,P,aq,rfl,V,?_⟩;have f:=mQ (n+1) c.1.1 (m+1) s (n+1) c.1.1 13 (cn (m+1) s) nJ nJ (fO _ _ (aU.2 (bJ.1 R).1)) (dS _ _ _ _ (eD B)) uZ;cases e1:iB (n+1) c.1.1 (m+1) s nJ with
 | none=>
  rw[e1]at f;cases e2:iB (n+1) c.1.1 13 (cn (m+1) s) nJ with
  | some _=>
   rw[e2]at f;exact f.elim
  | none=>
   have j:lT c (cn (m+1) s) (cn (k+1) t)=none:=by simp[lT,e2]
   rw[j];exact⟨Z e1,λA i=>by cases i⟩
 | some b=>
  rw[e1]at f;cases e2:iB (n+1) c.1.1 13 (cn (m+1) s) nJ with
  | none=>
   rw[e2]at f;exact f.elim
  | some q=>
   rw[e2]at f;have r:=lF Dx oL (n+1) c.1.1 (m+1) s (Oq B T) nJ b ⟨by simp[nJ,ov],DA⟩ e1;obtain⟨o,X,aa,af⟩:=ae b e1;have p:aG eG (ov (nE b) o) b=true:=sK o b (λa d=>⟨rZ (r.2 a d),AJ b a d⟩) X;have L:aG eG (ov (nE b) o) q=true:=oQ eG eG eG _ _ _ (λx _ a I ak H=>bP x.1 x.2 a.1 a.2 I.1 I.2 ak H) p f;have g:=mQ (n+1) c.1.2.1 (k+1) t (n+1) c.1.2.1 13 (cn (k+1) t) _ _ (fO _ _ (aU.2 (bJ.1 S).1)) (dS _ _ _ _ (eD C)) L;cases e3:iB (n+1) c.1.2.1 (k+1) t (ov (nE b) o)with
   | none=>
    rw[e3]at g;cases e4:iB (n+1) c.1.2.1 13 (cn (k+1) t) q with
    | some _=>
     rw[e4]at g;exact g.elim
    | none=>
     have j:lT c (cn (m+1) s) (cn (k+1) t)=none:=by simp[lT,e2,e4]
     rw[j];exact⟨aa e3,λA i=>by cases i⟩
   | some h=>
    rw[e3]at g;cases e4:iB (n+1) c.1.2.1 13 (cn (k+1) t) q with
    | none=>
     rw[e4]at g;exact g.elim
    | some N=>
     rw[e4]at g;have j:lT c (cn (m+1) s) (cn (k+1) t)=some (N.map P5):=by simp[lT,e2,e4]
     rw[j];obtain⟨ai,aj,F,aw,l,ar,G⟩:=af h e3;refine⟨ai,λA i=>⟨aj,nE h,l,?_⟩⟩;cases i;have ab:=Io p r.2;have Y:(ov (nE b) o).length=4:=by rw[cT _ _ _ p];exact r.1
     have D:=lF Dx oL (n+1) c.1.2.1 (k+1) t (Oq C U) _ h ⟨Y,ab⟩ e3;have E:∀a∈h,aJ a:=λa d=>rZ (D.2 a d);obtain⟨_,v,ah,_⟩:=FN G E F;have W:=yR D.2 v F ah;obtain⟨_,_,au,al,am,y⟩:=G;rcases y with y|⟨O,bo,rfl,⟨av,rfl,ao,ap⟩,an,z⟩
     ·rw[y]at v;simp at v
     ·refine⟨O,rfl,W,?_,⟨by omega,al⟩,⟨by omega,an⟩,λu a d=>⟨?_,(z u a d).2.1,(cv.both (z u a d).2.2 (ap a (aL d))).mono λH ad=>⟨by omega,ad.2⟩⟩,ao⟩;rotate_left
      ·have:=(z u a d).1;rw[cP]at this;exact this
      have M:aG eG (ov (nE h) l) h=true:=sK l h (λa d=>⟨E a d,AJ h a d⟩) am;rw[<-J8 g,<-J8 M];simp[ov,P5]
theorem ID{n m k:Nat}(c:Cl (n+1))(s:Tm (m+1))(t:Tm (k+1))(B:Nat)(w:ag)(i:iz (n+1) B w c)(j:In B w (m+1) s)(l:In B w (k+1) t)(h:B<=w.heap.size)(a:bG (n+1) c.1.1=0)(b:bG (n+1) c.1.2.1=0)(d:bG (m+1) s=0)(e:aT (m+1) s=true)(f:bG (k+1) t=0)(g:aT (k+1) t=true):ao 115 #[.agg (fq (n+1) c).toArray,dB (m+1) s,dB (k+1) t] w (Ol c (cn (m+1) s) (cn (k+1) t) w):=
 (IC n m k c s t B w i j l h a b d (by rw[<-fM];exact e) f (by rw[<-fM];exact g)).mono λ_ _ o=>Kt c s t a b d e f g o
theorem mh:(N n:Nat)->n<=N->(x:Tm n)->aT N (aZ N n x)=aT n x
 | 0,0,_,_=>rfl
 | _+1,0,_,_=>by simp[aZ,aT]
 | 0,n+1,h,_=>by omega
 | N+1,n+1,h,x=>by
  have:(x.2.2.map λy=>aZ N n y).all (λy=>aT N y)=x.2.2.all λy=>aT n y:=by
   rw[List.all_map];congr 1;funext y;exact mh N n (by omega) y
  simp only[aT,aZ];rw[this]
theorem yY(m:Nat)(b:List (Tm m))(self:Int)(k:∀y∈b,b8 ⟨m,y⟩=6\/aT m y=true):(n:Nat)->(x:Tm n)->aJ ⟨n,x⟩->(j:Tm (m+n))->vl m b self n x=some j->aT (m+n) j=true
 | 0,_,_,_,d=>by simp[vl]at d
 | n+1,x,hr,j,d=>by
  have p:=eV (bL n x) (hr (bL n x) (by simp[aC,bL]));by_cases g:x.1.1=6
  ·rw[Mf m b self n x g]at d;cases d
  ·by_cases f:x.1.1=5
   ·simp only[vl,f,de]at d;obtain⟨y,h,d⟩:=bF.1 d;split at d
    ·cases d
    ·rename_i t;obtain rfl:=az d;exact(mh (m+n+1) m (by omega) y).trans ((k y (aL h)).resolve_left t)
   ·by_cases e:x.1.1=4
    ·rw[Mg m b self n x e]at d;unfold xG at d;split at d
     ·obtain rfl:=az d;simp[bW,aT]
     ·split at d
      ·obtain⟨a,q,d⟩:=bF.1 d;obtain⟨c,D,d⟩:=bF.1 d;obtain⟨A,C,d⟩:=bF.1 d;obtain⟨B,E,d⟩:=bF.1 d;unfold ut at d;split at d
       ·obtain rfl:=az d;simp[bW,aT]
       ·cases d
      ·split at d
       ·obtain⟨a,q,d⟩:=bF.1 d;split at d
        ·rename_i r;obtain rfl:=az d;exact(mh (m+n+1) n (by omega) a).trans r
        ·cases d
       ·obtain⟨l,u,rfl⟩:=cD.1 d;obtain⟨w,z⟩:=rz _ _ _ u;show aT (m+n+1) (dr (m+n) l)=true;simp only[aT,dr];simp only[aK,cG];refine⟨by decide,λy h=>?_⟩;obtain⟨i,o⟩:=di h;have s:i<x.2.2.length:=by rw[<-w];exact(aY.1 o).1
        exact yY m b self k n x.2.2[i] (bi n x _ hr (io _)) y (z i _ y (aN s) o)
    ·rw[Gq m b self n x e f g]at d;obtain rfl:=az d;have v:x.2.2=[]:=bI (p.2.2.2.2 e);refine(mh (m+n+1) (n+1) (by omega) x).trans ?_;simp[aT,f,g,v]
def gD(n:Nat)(name:ap):List (Bh n)->Option (Bh n)
 | []=>none
 | b::l=>if b.1=name then some b else gD n name l
def MU(n:Nat):Option (Bh n)->ar
 | none=>ae none 0 0
 | some b=>ae b.2.1.1 b.2.2.length b.2.1.2
theorem oZ(n:Nat)(name:ap){l:List (Bh n)}{j:Nat}{b:Bh n}(c:l[j]?=some b):gD n name (l.drop j)=if b.1=name then some b else gD n name (l.drop (j+1)):=by
 obtain⟨d,a⟩:=aY.1 c;rw[eS d,a];rfl
theorem vn(n:Nat)(name:ap)(l:List (Bh n))(r:au)(D len B:Nat)(w:ag)(G:l.length=len)(H:len<=9223372036854775807)(z:B<=w.heap.size)(x:Hid (gG n B w r l)):ao 77 #[ae r len D,af name] w λe w'=>e=.returned (MU n (gD n name l))/\am w w':=by
 go_enter func77,ntmps77;go_wp2_with fail;go_loopw [9] (λq wr=>∃a:Nat,a<=len/\q=ab a/\Hid (am w wr/\gD n name l=gD n name (l.drop a))) (λq _=>len-(intOf q).toNat)
 case atStart=>exact⟨0,by omega,rfl,aA _ _,rfl⟩
 case round=>
 obtain⟨a,F,rfl,c⟩:=hrel;by_cases I:a<len
 ·obtain⟨b,d⟩:∃b,l[a]?=some b:=⟨l[a]'(by omega),aN _⟩;obtain⟨k,lo,rfl,C,v⟩:∃g o,r=some ⟨g,o,none⟩/\g<B/\Hid (∀(t:Nat)(f:ar),(pW n b)[t]?=some f->ah w g (o+a*2+t) f):=by
   rcases x with e|⟨g,o,e,A,y⟩
   ·rw[e]at d;simp at d
   ·exact⟨g,o,e,A,(y a _ d).1⟩
  have i:∀(t:Nat)(f:ar),(pW n b)[t]?=some f->ah wr k (lo+a*2+t) f:=λt f u=>(c.1.cell (p:=⟨k,lo+a*2+t,none⟩) (aW C z)).trans (v t f u);have E:ah wr k (lo+a*2) (af b.1):=i 0 _ rfl;have L:ah wr k (lo+a*2+1) (ae b.2.1.1 b.2.2.length b.2.1.2):=i 1 _ rfl;have J:(0:Int)<=(a:Int):=by omega
  have K:(a:Int)<(len:Int):=by omega
  have s:Hid (∀o:Obj,am w (wr.alloc o)):=λo=>c.1.alloc c.1.size o;by_cases j:b.1=name
  ·have h:Hid (gD n name l=some b):=by
     show _=_;rw[c.out.2,oZ n name d,if_pos j]
   have m:Hid (MU n (gD n name l)=ae b.2.1.1 b.2.2.length b.2.1.2):=by
    show _=_;rw[h.out];rfl
   rw[j]at E;clear i c h d;go_wp2_with fail
   go_ret
   rw[m.out];exact⟨rfl,s _⟩
  ·have h:Hid (gD n name l=gD n name (l.drop (a+1))):=by
     show _=_;rw[c.out.2,oZ n name d,if_neg j]
   have u:(b.1.toList==name.toList)=false:=by
    rw[gW];intro e;rw[cF,cF]at e;exact j (ByteArray.ext (Array.ext' e))
   clear i c d;go_wp2_with fail;go_roundw
   case rel=>exact⟨a+1,by omega,by go_num,s _,h⟩
   case measure=>simp[intOf];omega
 ·obtain rfl:a=len:=by omega
  have m:Hid (MU n (gD n name l)=ae none 0 0):=by
   show _=_;rw[c.out.2,pJ (by omega)];rfl
  have HB:=aq c.1;clear c;go_wp2_with fail
  go_ret
  rw[m.out];exact⟨rfl,HB⟩
def tp(b:List Tc)(self:Int)(n:Nat)(x:Tm n):Option Tc:=(vl 13 b self n x).bind λa=>if bG (13+n) a=0 then some (cn (13+n) a)else none
def nS(b:List Tc)(self:Int)(n:Nat)(x:Tm n):Option Int:=(tp b self n x).bind λt=>if t.1.1=3 then some t.1.2.1 else none
structure Dg where
 b:List Tc
 next:Int
 sends:List (Int×Tc)
 spawns:List (Int×ap×Tc)
 links:List Int
 stops:Bool
def EC(a:Int):Tc:=((3,a,.empty),(none,0),[])
def rK(self:Int){n:Nat}(a:Ac (n+1))(d:Dg):Option Dg:=
 if a.1=1 then (nS d.b self (n+1) a.2.1.1).bind λc=>(tp d.b self (n+1) a.2.1.2).map λt=>{d with sends:=d.sends++ [(c,t)]}
 else if a.1=2 then (tp d.b self (n+1) a.2.1.2).bind λt=>if b8 ⟨13,(d.b[a.2.2.2.toNat]?).getD (EC 0)⟩=6 then some {d with b:=d.b.set a.2.2.2.toNat (EC d.next),next:=d.next+1,spawns:=d.spawns++ [(d.next,a.2.2.1,t)]}else none
 else if a.1=3 then (nS d.b self (n+1) a.2.1.1).map λc=>{d with links:=d.links++ [c]}
 else some {d with stops:=true}
def qA(self:Int){n:Nat}:List (Ac (n+1))->Dg->Option Dg
 | [],d=>some d
 | a::l,d=>(rK self a d).bind (qA self l)
structure Tk where
 message:Tc
 fate:Int
 sends:List (Int×Tc)
 spawns:List (Int×ap×Tc)
 links:List Int
 state:Tc
 mail:List Tc
def fD{n:Nat}(room self next:Int)(s m:Tc)(ms:List Tc)(c:Cl (n+1))(b:List Tc):Tk:=
 match qA self c.2.2 ⟨b,next,[],[],[],false⟩with
 | none=>⟨m,2,[],[],[],s,ms⟩
 | some a=>match tp a.b self (n+1) c.1.2.2 with
  | none=>⟨m,2,[],[],[],s,ms⟩
  | some t=>if (ms.map (sz 13)).sum+sz 13 t<=room then ⟨m,if a.stops then 1 else 0,a.sends,a.spawns,a.links,t,ms⟩else ⟨m,3,[],[],[],s,ms⟩
def gH{n:Nat}(name:ap)(l:List (Bh (n+1))):List (Cl (n+1)):=((gD (n+1) name l).map λb=>b.2.2).getD []
def nW{n:Nat}(room:Int)(l:List (Bh (n+1)))(name:ap)(self next:Int)(s:Tc)(ms:List Tc):Option Tk:=
 (sP (gH name l) s ms 0).bind λx=>(ms[x.1]?).map λa=>fD room self next s a (ms.eraseIdx x.1) x.2.1 x.2.2
theorem yE{D:Nat}{l:List (Tm D)}{B:List Tc}(c:gE D l=true)(d:l.map (cn D)=B):aG (λx y=>aB D x 13 y) l B=true:=by
 rw[<-d];refine qQ (λy x=>aB 13 y D x) _ _ _ (λf _ b a=>dS _ _ _ _ a) (jo _ _ _ λy e=>?_);exact eD ((iE c).2 y e).1
theorem Lx{D:Nat}{l:List (Tm D)}{B:List Tc}(b:gE D l=true)(c:l.map (cn D)=B):gE 13 B=true:=by
 have e:=yE b c;obtain⟨f,g⟩:=iE b;unfold gE;rw[<-cT _ _ _ e,f];simp only[decide_true,eQ,cG];intro k d;rw[<-c]at d;obtain⟨j,i,rfl⟩:=cm.1 d;have a:=g j i;have h:=eD a.1;simp only[Ch,aK,co,iO];refine⟨nK a.1,?_⟩;rw[kQ h,<-fM,kI a.1];exact a.2.2
theorem Me{D n:Nat}{l:List (Tm D)}{B:List Tc}(b:gE D l=true)(g:l.map (cn D)=B)(self:Int)(x:Tm n)(k:bG n x=0):(oz 0 (vl D l self n x)).map (cn (D+n))=tp B self n x:=by
 have j:aJ ⟨n,x⟩:=aU.2 (bJ.1 k).1;have i:=Lx b g;have a:=sB D l 13 B self (yE b g) (λd c=>aU.2 (bJ.1 ((iE b).2 d c).1).1) (λd c=>aU.2 (bJ.1 ((iE i).2 d c).1).1) n x j;unfold tp oz;cases e1:vl D l self n x with
 | none=>
  rw[e1]at a;cases e2:vl 13 B self n x with
  | none=>rfl
  | some _=>
   rw[e2]at a;exact a.elim
 | some m=>
  rw[e1]at a;cases e2:vl 13 B self n x with
  | none=>
   rw[e2]at a;exact a.elim
  | some h=>
   rw[e2]at a;have f:aB (D+n) m (13+n) h=true:=a;simp only[de,dP];rw[bZ f];by_cases e:bG (13+n) h=0
   ·simp[e,iF f]
   ·simp[e]
theorem PD{n:Nat}{B:List Tc}(d:gE 13 B=true){self:Int}{x:Tm n}(f:bG n x=0){t:Tc}(a:tp B self n x=some t):bG 13 t=0/\aT 13 t=true/\cn 13 t=t:=by
 have e:aJ ⟨n,x⟩:=aU.2 (bJ.1 f).1;unfold tp at a;obtain⟨c,h,a⟩:=bF.1 a;by_cases b:bG (13+n) c=0
 ·rw[if_pos b]at a;obtain rfl:=az a;refine⟨nK b,?_,MW b⟩;rw[kI b];exact yY 13 B self (λi g=>((iE d).2 i g).2.2) n x e c h
 ·rw[if_neg b]at a;cases a
def lX(b a:Nat)(d c lv:ar)(q:Nat):Prop:=q=b\/q=a\/d.ownBlock=some q\/c.ownBlock=some q\/lv.ownBlock=some q
def Mu(base b a:Nat)(d c lv:ar)(q:Nat):Prop:=base<=q/\¬lX b a d c lv q
structure eJ (base db:Nat) (me:Int) (n D k:Nat) (nx:Int) (d:Dg) (w:ag) (l:List (Tm (D+1))) (bg bc:Nat) (sd:List (Int×Tm (D+1+n+1))) (sp:List (Int×ap×Tm (D+1+n+1))) (sv pv lv:ar):Prop where
 box:w.heap[db]?=some (.cells #[ae (some ⟨bg,0,none⟩) 4 bc,ab me,ab d.next,sv,pv,lv,.bool d.stops] 170)
 own:db≠bg/\base<=db/\base<=bg/\bg<w.heap.size/\base<=w.heap.size
 bnd:gE (D+1) l=true
 tells:l.map (cn (D+1))=d.b
 row:∀(i:Nat)(y:Tm (D+1)),l[i]?=some y->dC w bg (i*4) (D+1) y/\In w.heap.size w (D+1) y/\cv (Mu base db bg sv pv lv) (D+1) y
 free:∀j,w.frozen? ⟨bg,j,none⟩=false
 sRow:w.ownsRow base 177 5 sv sd.length (sd.flatMap λz=>Ou z.1 z.2)
 pRow:w.ownsRow base 174 6 pv sp.length (sp.flatMap λz=>Pv z.1 z.2.1 z.2.2)
 lRow:w.ownsRow base 3 1 lv d.links.length (d.links.map λu=>ab u)
 sIs:sd.map (λz=>(z.1,cn _ z.2))=d.sends
 pIs:sp.map (λz=>(z.1,z.2.1,cn _ z.2.2))=d.spawns
 sIn:∀z∈sd,bG _ z.2=0/\In w.heap.size w _ z.2/\cv (Mu base db bg sv pv lv) _ z.2
 pIn:∀z∈sp,bG _ z.2.2=0/\In w.heap.size w _ z.2.2/\cv (Mu base db bg sv pv lv) _ z.2.2
 apart:(sv.ownBlock≠some db/\pv.ownBlock≠some db/\lv.ownBlock≠some db)/\(sv.ownBlock≠some bg/\pv.ownBlock≠some bg/\lv.ownBlock≠some bg)/\∀q,(sv.ownBlock=some q->pv.ownBlock≠some q/\lv.ownBlock≠some q)/\(pv.ownBlock=some q->lv.ownBlock≠some q)
 few:sd.length<=k/\sp.length<=k/\d.links.length<=k/\d.next=nx+sp.length/\1<=nx/\nx<=92
def Do(base b:Nat)(self:Int)(n D k:Nat)(g:Int)(d:Dg)(S:aO)(w0 w:ag):Prop:=∃l a f h i e c lv,eJ base b self n D k g d w l a f h i e c lv/\∀q,lX b a e c lv q->S q\/w0.heap.size<=q
theorem sX{base n:Nat}{x:Tm n}{S c:aO}{w w':ag}(k:bB S w w')(f:∀q,c q->S q\/w.heap.size<=q)(d:In w.heap.size w n x)(e:cv (λq=>base<=q/\¬S q) n x):In w'.heap.size w' n x/\cv (λq=>base<=q/\¬c q) n x:=by
 refine⟨d.kee k (e.mono λq a=>a.2),(In.offB e d).mono λq a=>⟨a.1.1,λb=>?_⟩⟩;rcases f q b with b|b
 ·exact a.1.2 b
 ·have:=a.2;omega
theorem Eh{w w':ag}{n:Nat}{q:List (Tm n)}{a:au}(c:fU w.heap.size w n q a)(d:am w w'):fU w'.heap.size w' n q a:=by
 rcases c.below d with c|⟨b,o,h,i,c⟩
 ·exact aj c
 ·exact ak ⟨b,o,h,aW i d.size,λf g e=>⟨(c f g e).1,(c f g e).2.mono d.size⟩⟩
section
variable {base db:Nat} {self:Int} {n D k:Nat} {nx:Int} {d:Dg} {w:ag} {l:List (Tm (D+1))} {bg bc:Nat} {sd:List (Int×Tm (D+1+n+1))} {sp:List (Int×ap×Tm (D+1+n+1))} {sv pv lv:ar}
theorem eJ.lt(a:eJ base db self n D k nx d w l bg bc sd sp sv pv lv):db<w.heap.size:=(aI.1 a.box).1
theorem eJ.high(c:eJ base db self n D k nx d w l bg bc sd sp sv pv lv):∀q,lX db bg sv pv lv q->base<=q:=by
 intro q a;obtain⟨_,i,j,_⟩:=c.own;have f:∀{b:TypeId}{r o:Nat}{g:ar}{p:List ar},w.ownsRow base b r g o p->g.ownBlock=some q->base<=q:=λm e=>by
  rcases m.2 with⟨b,_⟩|⟨h,cap,s,b,t,_⟩
  ·rw[b]at e;cases e
  ·rw[b]at e;have:h=q:=az e;omega
 rcases a with rfl|rfl|a|a|a
 ·exact i
 ·exact j
 ·exact f c.sRow a
 ·exact f c.pRow a
 ·exact f c.lRow a
theorem eJ.later(a:eJ base db self n D k nx d w l bg bc sd sp sv pv lv){w':ag}(e:am w w'):eJ base db self n D k nx d w' l bg bc sd sp sv pv lv:=by
 have h:=aR e (λ_=>False);have i:=e.size;obtain⟨t,u,v,q,y⟩:=a.own;refine⟨(e.block db a.lt).trans a.box,⟨t,u,v,by omega,by omega⟩,a.bnd,a.tells,λs x r=>?_,λo=>?_,bw a.sRow h λ_ _ g=>g,bw a.pRow h λ_ _ g=>g,bw a.lRow h λ_ _ g=>g,a.sIs,a.pIs,λm j=>?_,λm j=>?_,a.apart,a.few⟩
 ·obtain⟨f,b,c⟩:=a.row s x r;exact⟨f.below e q,(b.below e).mono i,c⟩
 ·exact(e.frozen (p:=⟨bg,o,none⟩) q).trans (a.free o)
 ·obtain⟨f,b,c⟩:=a.sIn m j;exact⟨f,(b.below e).mono i,c⟩
 ·obtain⟨f,b,c⟩:=a.pIn m j;exact⟨f,(b.below e).mono i,c⟩
theorem eJ.more(a:eJ base db self n D k nx d w l bg bc sd sp sv pv lv){g:Nat}(i:k<=g):eJ base db self n D g nx d w l bg bc sd sp sv pv lv:=by
 obtain⟨h,b,c,e,f⟩:=a.few;exact{a with few:=⟨by omega,by omega,by omega,e,f⟩}
theorem eJ.lies(a:eJ base db self n D k nx d w l bg bc sd sp sv pv lv):fU w.heap.size w (D+1) l (some ⟨bg,0,none⟩):=ak ⟨bg,0,rfl,a.own.2.2.2.1,λi y b=>by
 rw[cP]
 exact⟨(a.row i y b).1,(a.row i y b).2.1⟩⟩
theorem eJ.value(a:eJ base db self n D k nx d w l bg bc sd sp sv pv lv)(x:Tm (n+1))(r:In base w (n+1) x)(g:bG (n+1) x=0)(o:1<=self/\self<=99):∀W,am w W->ao 117 #[aH db,.agg #[ab x.1.1,ab x.1.2.1,af x.1.2.2,ae x.2.1.1 x.2.2.length x.2.1.2]] W (xK (D+1+n) (oz 0 (vl (D+1) l self (n+1) x)) W):=by
 intro W b;have i:Gh (bG (n+1) x) (gE (D+1) l) self=0:=by simp[Gh,g,a.bnd,o]
 have f:=(iE a.bnd).1;have m:=a.lies;have h:=a.own.2.2.2.2;have q:=zN (D+1+n) 0 (vl (D+1) l self (n+1) x) x.1.1 x.1.2.1 x.1.2.2 x.2.1.1 x.2.2.length x.2.1.2 (some ⟨bg,0,none⟩) bc self db W (aW a.lt b.size) ((b.cell (p:=⟨db,0,none⟩) a.lt).trans (ai a.box 0)) ((b.cell (p:=⟨db,1,none⟩) a.lt).trans (ai a.box 1)) λe j=>by
  have c:=b.trans (j.mono b.size);have:=EK n (D+1) x l (some ⟨bg,0,none⟩) bc e.heap.size self e ((r.below (c.mono h)).mono (aF h c.size)) (Eh m c) (av _) (fw g) (by rw[f];decide) (λt s=>fw ((iE a.bnd).2 t s).1);rw[i,f]at this;exact this
 exact q
theorem eJ.process(i:eJ base db self n D k nx d w l bg bc sd sp sv pv lv)(x:Tm (n+1))(z:In base w (n+1) x)(m:bG (n+1) x=0)(u:1<=self/\self<=99):∀W,am w W->ao 201 #[aH db,.agg #[ab x.1.1,ab x.1.2.1,af x.1.2.2,ae x.2.1.1 x.2.2.length x.2.1.2]] W λe w'=>∃g,e=.returned (.tuple #[ab g,.bool (nS d.b self (n+1) x).isSome])/\Hid (am W w'/\∀v,nS d.b self (n+1) x=some v->g=v):=by
 intro W j;have a:=Me i.bnd i.tells self x m;refine(By (D+1+n) _ x.1.1 x.1.2.1 x.1.2.2 x.2.1.1 x.2.2.length x.2.1.2 db W λs t=>i.value x z m u s (j.trans (t.mono j.size))).mono ?_;rintro e w' ⟨g,rfl,p⟩;obtain⟨q,r⟩:=p;have o:FY (oz 0 (vl (D+1) l self (n+1) x))=(nS d.b self (n+1) x).isSome/\∀v,nS d.b self (n+1) x=some v->g=v:=by
  unfold nS;rw[<-a];cases e:oz 0 (vl (D+1) l self (n+1) x)with
  | none=>exact⟨rfl,λv a=>by cases a⟩
  | some c=>
   have A:(cn (D+1+n+1) c).1=c.1:=rfl;have y:=r c e;simp only[nB,dP,FY];by_cases h:c.1.1=3
   ·have f:(cn (D+1+n+1) c).1.1=3:=h;refine⟨?_,λv a=>?_⟩
    ·erw [if_pos f]
     simp[h]
    ·erw [if_pos f]at a
     rw[y,<-az a];rfl
   ·have f:¬(cn (D+1+n+1) c).1.1=3:=h;refine⟨?_,λv a=>?_⟩
    ·erw [if_neg f]
     simp[h]
    ·erw [if_neg f]at a
     cases a
 exact⟨g,by rw[o.1],q,o.2⟩
end
section
variable {base db:Nat} {self:Int} {n D k:Nat} {nx:Int} {d:Dg} {w:ag} {l:List (Tm (D+1))} {bg bc:Nat} {sd:List (Int×Tm (D+1+n+1))} {sp:List (Int×ap×Tm (D+1+n+1))} {sv pv lv:ar}
def zm(base db:Nat)(self:Int)(n D k:Nat)(nx:Int)(d:Dg)(a:Ac (n+1))(S:aO)(w:ag)(t:Bool)(w':ag):Prop:=
 bB S w w'/\t=(rK self a d).isSome/\∀b,rK self a d=some b->Do base db self n D (k+1) nx b S w w'
theorem ng{w:ag}{base:Nat}{e:TypeId}{g m:Nat}{v:ar}{xs:List ar}(f:w.ownsRow base e g v m xs):∃a c,v=ae a m c:=by
 rcases f.2 with⟨b,d⟩|⟨i,cap,h,b,_⟩
 ·exact⟨none,0,by rw[b,d]⟩
 ·exact⟨_,cap,b⟩
theorem oS{w:ag}{b:Nat}{v0 v1 v2 v3 a c d:ar}{t:TypeId}(e:w.heap[b]?=some (.cells #[v0,v1,v2,v3,a,c,d] t)):(∀v,(w.setCell ⟨b,3,none⟩ v).heap[b]?=some (.cells #[v0,v1,v2,v,a,c,d] t))/\(∀v,(w.setCell ⟨b,4,none⟩ v).heap[b]?=some (.cells #[v0,v1,v2,v3,v,c,d] t))/\(∀v,(w.setCell ⟨b,5,none⟩ v).heap[b]?=some (.cells #[v0,v1,v2,v3,a,v,d] t))/\(∀v,(w.setCell ⟨b,2,none⟩ v).heap[b]?=some (.cells #[v0,v1,v,v3,a,c,d] t))/\∀v,(w.setCell ⟨b,6,none⟩ v).heap[b]?=some (.cells #[v0,v1,v2,v3,a,c,v] t):=by
 refine⟨λv=>?_,λv=>?_,λv=>?_,λv=>?_,λv=>?_⟩<;>
 ·unfold World.setCell;simp[bQ,e]
theorem uA{w:ag}{b:Nat}{cs:Array ar}{t:TypeId}(a:w.heap[b]?=some (.cells cs t))(j:Nat):w.frozen? ⟨b,j,none⟩=false:=by simp[World.frozen?,a]
theorem eJ.frame(c:eJ base db self n D k nx d w l bg bc sd sp sv pv lv){w':ag}{j h g:ar}(f:bB (lX db bg sv pv lv) w w')(m:∀q,lX db bg j h g q->lX db bg sv pv lv q\/w.heap.size<=q):(∀(i:Nat)(y:Tm (D+1)),l[i]?=some y->In w'.heap.size w' (D+1) y/\cv (Mu base db bg j h g) (D+1) y)/\(∀a∈sd,bG _ a.2=0/\In w'.heap.size w' _ a.2/\cv (Mu base db bg j h g) _ a.2)/\(∀a∈sp,bG _ a.2.2=0/\In w'.heap.size w' _ a.2.2/\cv (Mu base db bg j h g) _ a.2.2)/\Below base w w':=
 ⟨λi y o=>sX f m (c.row i y o).2.1 (c.row i y o).2.2,λa e=>⟨(c.sIn a e).1,sX f m (c.sIn a e).2.1 (c.sIn a e).2.2⟩,λa e=>⟨(c.pIn a e).1,sX f m (c.pIn a e).2.1 (c.pIn a e).2.2⟩,f.below c.own.2.2.2.2 λb p q=>by
  have:=c.high b q
  omega⟩
theorem eJ.link(g:eJ base db self n D k nx d w l bg bc sd sp sv pv lv)(a:Ac (n+1))(P:iY (n+1) base w a)(T:bG (n+1) a.2.1.1=0)(O:a.1=3)(Y:1<=self/\self<=99)(am:k<=1000):ao 188 #[aH db,PK a] w λe w'=>∃t,e=.returned (.bool t)/\Hid (zm base db self n D k nx d a (lX db bg sv pv lv) w t w'):=by
 have J:=g.lRow;obtain⟨r,s,rfl⟩:=ng J;obtain⟨f1,f2,f3,f4⟩:=g.few;have u:rK self a d=(nS d.b self (n+1) a.2.1.1).map λx=>{d with links:=d.links++ [x]}:=by
  simp[rK,O]
 refine(Hw a.1 a.2.1.1.1.1 a.2.1.1.1.2.1 a.2.1.1.1.2.2 a.2.1.1.2.1.1 a.2.1.1.2.2.length a.2.1.1.2.1.2 a.2.1.2.1.1 a.2.1.2.1.2.1 a.2.1.2.1.2.2 a.2.1.2.2.1.1 a.2.1.2.2.2.length a.2.1.2.2.1.2 a.2.2.1 a.2.2.2 base db r d.links.length s _ w (nS d.b self (n+1) a.2.1.1).isSome (λx=>∀y,nS d.b self (n+1) a.2.1.1=some y->x=y) (by omega) g.lt g.own.2.2.2.2 ⟨ai g.box 5,uA g.box 5⟩ J g.apart.1.2.2 (g.process a.2.1.1 P.2.1 T Y)).mono ?_;rintro e w' ⟨rfl,U,v⟩;refine⟨_,rfl,?_⟩;cases hp:nS d.b self (n+1) a.2.1.1 with
 | none=>
  have Q:=U (by rw[hp];rfl);refine⟨aR Q _,by rw[u,hp];rfl,λN o=>?_⟩;rw[u,hp]at o;cases o
 | some y=>
  obtain⟨x,m,c,z,aa,X,j,i,rfl⟩:=v (by rw[hp];rfl);obtain rfl:=aa y hp;have S:z.heap[db]?=_:=(j.block db g.lt λf=>g.apart.1.2.2 f).trans g.box;have C:bB (lX db bg sv pv (ae r d.links.length s)) w (z.setCell ⟨db,5,none⟩ (ae (some ⟨m,0,none⟩) (d.links.length+1) c)):=bB.trans (j.mono λf _ h=>ak (ak (ak (ak h)))) (bK _ _ _ _) λf _ h=>aj h;have p:∀f,f<w.heap.size->¬(Value.slice r d.links.length s).ownBlock=some f->m≠f:=λf h V e=>by
   rcases i with i|i
   ·rw[e]at i;exact V i
   ·omega
  have H:∀f,lX db bg sv pv (ae (some ⟨m,0,none⟩) (d.links.length+1) c) f->lX db bg sv pv (ae r d.links.length s) f\/w.heap.size<=f:=λf h=>by
   rcases h with h|h|h|h|h
   ·exact aj (aj h)
   ·exact aj (ak (aj h))
   ·exact aj (ak (ak (aj h)))
   ·exact aj (ak (ak (ak (aj h))))
   ·have:m=f:=az h;subst this;rcases i with i|i
    ·exact aj (ak (ak (ak (ak i))))
    ·exact ak i
  obtain⟨ag,ah,al,aq⟩:=g.frame C H;refine⟨C,by rw[u,hp];rfl,λN o=>?_⟩;rw[u,hp]at o;obtain rfl:=az o;have an:=C.size;obtain⟨F,ad,af,G,ap⟩:=g.own;have q:=bK z db 5 (ae (some ⟨m,0,none⟩) (d.links.length+1) c);have Z:∀f,sv.ownBlock=some f->f<w.heap.size:=λf h=>by
   obtain⟨M,B⟩:=eI g.sRow f h;exact(aI.1 B).1
  have W:∀f,pv.ownBlock=some f->f<w.heap.size:=λf h=>by
   obtain⟨M,B⟩:=eI g.pRow f h;exact(aI.1 B).1
  have A:¬(Value.slice r d.links.length s).ownBlock=some bg:=g.apart.2.1.2.2;refine⟨l,bg,bc,sd,sp,sv,pv,_,⟨(oS S).2.2.1 _,⟨F,ad,af,by omega,by omega⟩,g.bnd,g.tells,λK L v=>⟨?_,ag K L v⟩,λab=>?_,?_,?_,?_,g.sIs,g.pIs,ah,al,⟨⟨g.apart.1.1,g.apart.1.2.1,?_⟩,⟨g.apart.2.1.1,g.apart.2.1.2.1,?_⟩,λf=>⟨λh=>⟨((g.apart.2.2 f).1 h).1,?_⟩,λh=>?_⟩⟩,⟨by omega,by omega,by simp;omega,f4⟩⟩,H⟩
  ·exact((g.row K L v).1.kee j G A).kee q (by have:=j.size;omega) (λe=>F e.symm)
  ·have R:(z.setCell ⟨db,5,none⟩ (ae (some ⟨m,0,none⟩) (d.links.length+1) c)).heap[bg]?=w.heap[bg]? :=(q.block bg (by have:=j.size;omega) (λe=>F e.symm)).trans (j.block bg G A);have I:=g.free ab;unfold World.frozen? at I ⊢;rw[R];exact I
  ·exact bw (bw g.sRow j λf h E=>((g.apart.2.2 f).1 h).2 E) q λf h e=>g.apart.1.1 (by rw[h,e])
  ·exact bw (bw g.pRow j λf h E=>(g.apart.2.2 f).2 h E) q λf h e=>g.apart.1.2.1 (by rw[h,e])
  ·have:=bw X q λf h e=>p db g.lt g.apart.1.2.2 (by
     have:m=f:=az h
     rw[this,e])
   simpa using this
  ·exact λe=>p db g.lt g.apart.1.2.2 (az e)
  ·exact λe=>p bg G A (az e)
  ·exact λe=>p f (Z f h) (((g.apart.2.2 f).1 h).2) (az e)
  ·exact λe=>p f (W f h) ((g.apart.2.2 f).2 h) (az e)
end
section
variable {base db:Nat} {self:Int} {n D k:Nat} {nx:Int} {d:Dg} {w:ag} {l:List (Tm (D+1))} {bg bc:Nat} {sd:List (Int×Tm (D+1+n+1))} {sp:List (Int×ap×Tm (D+1+n+1))} {sv pv lv:ar}
theorem NR{N:Nat}{o:Option (Tm N)}{c:Tm N}(a:oz 0 o=some c):bG N c=0:=by
 unfold oz at a;rw[if_pos rfl]at a;obtain⟨d,_,a⟩:=bF.1 a;by_cases b:bG N d=0
 ·rw[if_pos b]at a;rw[<-az a];exact b
 ·rw[if_neg b]at a;cases a
theorem eJ.told(e:eJ base db self n D k nx d w l bg bc sd sp sv pv lv)(x:Tm (n+1))(h:bG (n+1) x=0):(oz 0 (vl (D+1) l self (n+1) x)).isSome=(tp d.b self (n+1) x).isSome/\∀(a:Tm (D+1+n+1)) t,tp d.b self (n+1) x=some t->aB _ a (D+1+n+1) ((oz 0 (vl (D+1) l self (n+1) x)).getD (xg (D+1+n)))=true->bG _ a=0/\aT _ a=true/\cn _ a=t:=by
 have m:=Me e.bnd e.tells self x h;refine⟨by rw[<-m,Option.isSome_map],λa t f c=>?_⟩;have p:=PD (Lx e.bnd e.tells) h f;rw[<-m]at f;obtain⟨q,o,rfl⟩:=cD.1 f;rw[o]at c;have c:aB _ a _ q=true:=c;have i:=(bZ c).trans (NR o);have j:=iF c;refine⟨i,?_,j⟩;have g:=p.2.1;rw[<-j,kI i]at g;exact g
theorem eJ.send(h:eJ base db self n D k nx d w l bg bc sd sp sv pv lv)(a:Ac (n+1))(P:iY (n+1) base w a)(ad:bG (n+1) a.2.1.1=0)(Q:bG (n+1) a.2.1.2=0)(Z:a.1=1)(V:1<=self/\self<=99)(aC:k<=1000):ao 186 #[aH db,PK a] w λe w'=>∃t,e=.returned (.bool t)/\Hid (zm base db self n D k nx d a (lX db bg sv pv lv) w t w'):=by
 have U:=h.sRow;obtain⟨y,z,rfl⟩:=ng U;obtain⟨f1,f2,f3,f4⟩:=h.few;have s:rK self a d=(nS d.b self (n+1) a.2.1.1).bind λx=>(tp d.b self (n+1) a.2.1.2).map λt=>{d with sends:=d.sends++ [(x,t)]}:=by
  simp[rK,Z]
 obtain⟨ah,al⟩:=h.told (self:=self) a.2.1.2 Q;refine(IY (D+1+n) a.1 a.2.1.1.1.1 a.2.1.1.1.2.1 a.2.1.1.1.2.2 a.2.1.1.2.1.1 a.2.1.1.2.2.length a.2.1.1.2.1.2 a.2.1.2.1.1 a.2.1.2.1.2.1 a.2.1.2.1.2.2 a.2.1.2.2.1.1 a.2.1.2.2.2.length a.2.1.2.2.1.2 a.2.2.1 a.2.2.2 base db y sd.length z _ w (nS d.b self (n+1) a.2.1.1).isSome (λx=>∀A,nS d.b self (n+1) a.2.1.1=some A->x=A) (oz 0 (vl (D+1) l self (n+1) a.2.1.2)) (by omega) h.lt h.own.2.2.2.2 ⟨ai h.box 3,uA h.box 3⟩ U h.apart.1.1 (h.process a.2.1.1 P.2.1 ad V) (h.value a.2.1.2 P.2.2.1 Q V)).mono ?_;rintro e w' ⟨rfl,K,i⟩;refine⟨_,rfl,?_⟩;rw[ah]at K i ⊢;cases hp:nS d.b self (n+1) a.2.1.1 with
 | none=>
  have E:=K (by rw[hp];rfl);refine⟨aR E _,by rw[s,hp];rfl,λN p=>?_⟩;rw[s,hp]at p;cases p
 | some A=>
  cases g:tp d.b self (n+1) a.2.1.2 with
  | none=>
   have E:=K (by rw[hp,g];rfl);refine⟨aR E _,by rw[s,hp,g];rfl,λN p=>?_⟩;rw[s,hp,g]at p;cases p
  | some t=>
   obtain⟨x,r,j,c,B,am,ar,ap,W,ag,q,m,rfl⟩:=i (by rw[hp,g];rfl);obtain rfl:=am A hp;obtain⟨an,_,au⟩:=al r t g ar;have ab:B.heap[db]?=_:=(q.block db h.lt λf=>h.apart.1.1 f).trans h.box;have I:bB (lX db bg (ae y sd.length z) pv lv) w (B.setCell ⟨db,3,none⟩ (ae (some ⟨j,0,none⟩) (sd.length+1) c)):=bB.trans (q.mono λf _ g=>ak (ak (aj g))) (bK _ _ _ _) λf _ g=>aj g;have v:∀f,f<w.heap.size->¬(Value.slice y sd.length z).ownBlock=some f->j≠f:=λf g af e=>by
    rcases m with m|m
    ·rw[e]at m;exact af m
    ·omega
   have O:∀f,lX db bg (ae (some ⟨j,0,none⟩) (sd.length+1) c) pv lv f->lX db bg (ae y sd.length z) pv lv f\/w.heap.size<=f:=λf g=>by
    rcases g with g|g|g|g|g
    ·exact aj (aj g)
    ·exact aj (ak (aj g))
    ·have:j=f:=az g;subst this;rcases m with m|m
     ·exact aj (ak (ak (aj m)))
     ·exact ak m
    ·exact aj (ak (ak (ak (aj g))))
    ·exact aj (ak (ak (ak (ak g))))
   obtain⟨ay,aA,aB,aG⟩:=h.frame I O;refine⟨I,by rw[s,hp,g];rfl,λN p=>?_⟩;rw[s,hp,g]at p;obtain rfl:=az p;have aD:=I.size;have aE:=q.size;obtain⟨L,aw,ax,M,aF⟩:=h.own;have u:=bK B db 3 (ae (some ⟨j,0,none⟩) (sd.length+1) c);have S:∀f,lv.ownBlock=some f->f<w.heap.size:=λf g=>by
    obtain⟨Y,G⟩:=eI h.lRow f g;exact(aI.1 G).1
   have T:∀f,pv.ownBlock=some f->f<w.heap.size:=λf g=>by
    obtain⟨Y,G⟩:=eI h.pRow f g;exact(aI.1 G).1
   have F:¬(Value.slice y sd.length z).ownBlock=some bg:=h.apart.2.1.1;have aq:cv (Mu base db bg (ae (some ⟨j,0,none⟩) (sd.length+1) c) pv lv) _ r:=W.mono λf g=>by
    have:=h.lt;refine⟨by omega,λo=>?_⟩;rcases o with o|o|o|o|o
    ·omega
    ·omega
    ·exact g.2 (az o).symm
    ·have:=T f o;omega
    ·have:=S f o;omega
   refine⟨l,bg,bc,sd++ [(x,r)],sp,_,pv,lv,⟨(oS ab).1 _,⟨L,aw,ax,by omega,by omega⟩,h.bnd,h.tells,λX C i=>⟨?_,ay X C i⟩,λav=>?_,?_,?_,?_,?_,h.pIs,λC i=>?_,aB,⟨⟨?_,h.apart.1.2.1,h.apart.1.2.2⟩,⟨?_,h.apart.2.1.2.1,h.apart.2.1.2.2⟩,λf=>⟨λg=>⟨λe=>?_,λe=>?_⟩,(h.apart.2.2 f).2⟩⟩,⟨by simp;omega,by omega,by show d.links.length<=k+1;omega,f4⟩⟩,O⟩
   ·exact((h.row X C i).1.kee q M F).kee u (by omega) (λe=>L e.symm)
   ·have aa:(B.setCell ⟨db,3,none⟩ (ae (some ⟨j,0,none⟩) (sd.length+1) c)).heap[bg]?=w.heap[bg]? :=(u.block bg (by omega) (λe=>L e.symm)).trans (q.block bg M F);have R:=h.free av;unfold World.frozen? at R ⊢;rw[aa];exact R
   ·have:=bw ag u λf g e=>v db h.lt h.apart.1.1 (by
      have:j=f:=az g
      rw[this,e])
    simpa using this
   ·exact bw (bw h.pRow q λf g J=>((h.apart.2.2 f).1 J).1 g) u λf g e=>h.apart.1.2.1 (by rw[g,e])
   ·exact bw (bw h.lRow q λf g J=>((h.apart.2.2 f).1 J).2 g) u λf g e=>h.apart.1.2.2 (by rw[g,e])
   ·simp[h.sIs,au]
   ·rcases cY.1 i with i|i
    ·exact aA C i
    ·obtain rfl:=dx.1 i;refine⟨an,?_,aq⟩;refine ap.kee u (W.mono λf g e=>?_);have:=h.lt;omega
   ·exact λe=>v db h.lt h.apart.1.1 (az e)
   ·exact λe=>v bg M F (az e)
   ·have H:j=f:=az g;exact v f (T f e) (λr=>((h.apart.2.2 f).1 r).1 e) H
   ·have H:j=f:=az g;exact v f (S f e) (λr=>((h.apart.2.2 f).1 r).2 e) H
end
theorem oF(w:ag)(g o:Nat)(v0 v1 v2 v3:ar):bB (λb=>b=g) w (cZ w g o v0 v1 v2 v3):=
 bB.trans (bB.trans (bB.trans (bK w g o v0) (bK _ g (o+1) v1) λ_ _ a=>a) (bK _ g (o+2) v2) λ_ _ a=>a) (bK _ g (o+3) v3) λ_ _ a=>a
theorem Cq{w:ag}{g o:Nat}{v0 v1 v2 v3:ar}(j:Nat)(a:j<o\/o+4<=j):(cZ w g o v0 v1 v2 v3).cell? ⟨g,j,none⟩=w.cell? ⟨g,j,none⟩:=by
 unfold cZ;rw[dK j (by omega),dK j (by omega),dK j (by omega),dK j (by omega)]
theorem yz{w:ag}{g o:Nat}{f h i j:ar}(v0 v1 v2 v3:ar)(a:ah w g o f/\ah w g (o+1) h/\ah w g (o+2) i/\ah w g (o+3) j):(cZ w g o v0 v1 v2 v3).cell? ⟨g,o,none⟩=some v0/\(cZ w g o v0 v1 v2 v3).cell? ⟨g,o+1,none⟩=some v1/\(cZ w g o v0 v1 v2 v3).cell? ⟨g,o+2,none⟩=some v2/\(cZ w g o v0 v1 v2 v3).cell? ⟨g,o+3,none⟩=some v3:=by
 obtain⟨b,c,d,e⟩:=a;unfold cZ;refine⟨?_,?_,?_,?_⟩
 ·rw[dK o (by omega),dK o (by omega),dK o (by omega)];exact iy _ _ _ b
 ·rw[dK (o+1) (by omega),dK (o+1) (by omega)];exact iy _ _ _ ((dK (o+1) (by omega)).trans c)
 ·rw[dK (o+2) (by omega)];exact iy _ _ _ ((dK (o+2) (by omega)).trans ((dK (o+2) (by omega)).trans d))
 ·exact iy _ _ _ ((dK (o+3) (by omega)).trans ((dK (o+3) (by omega)).trans ((dK (o+3) (by omega)).trans e)))
theorem tQ{w:ag}{g o:Nat}{v0 v1 v2 v3:ar}(j:Nat):(cZ w g o v0 v1 v2 v3).frozen? ⟨g,j,none⟩=w.frozen? ⟨g,j,none⟩:=by
 unfold cZ;rw[g9,g9,g9,g9]
theorem G1(w:ag)(p:Addr):w.drew.cell? p=w.cell? p:=rfl
theorem Bz(w:ag)(p:Addr):w.drew.frozen? p=w.frozen? p:=rfl
theorem dC.far{w w':ag}{g o:Nat}{n:Nat}{x:Tm n}(b:dC w g o n x)(a:∀j,o<=j->j<o+4->w'.cell? ⟨g,j,none⟩=w.cell? ⟨g,j,none⟩):dC w' g o n x:=by
 cases n with
 | zero=>exact b.elim
 | succ n=>
  obtain⟨c,d,e,f⟩:=b;exact⟨(a _ (by omega) (by omega)).trans c,(a _ (by omega) (by omega)).trans d,(a _ (by omega) (by omega)).trans e,(a _ (by omega) (by omega)).trans f⟩
theorem Pl(a:Int)(D:Nat)(h:1<=a/\a<=99):Ch (D+1) (bW 3 a D)=true/\cn (D+1) (bW 3 a D)=EC a:=by
 refine⟨?_,rfl⟩;have f:ci (D+1) (bW 3 a D)=true:=by
  rw[<-aU];intro b c;have:b=((3,a,.empty),(none,0,0)):=by simpa [aC,bW]using c
  subst this;have g:rh a 1 99=true:=by simp[rh];omega
  simp[cN,g]
 have d:bG (D+1) (bW 3 a D)=0:=bJ.2 ⟨f,by simp[fP,bW],by simp[sz,bW]⟩;have e:aT (D+1) (bW 3 a D)=true:=by simp[aT,bW]
 simp only[Ch,d,aK,iO];refine⟨rfl,ak ?_⟩;rw[<-fM];exact e
theorem MP{D:Nat}{l:List (Tm D)}(a:gE D l=true)(i:Nat){y:Tm D}(c:Ch D y=true):gE D (l.set i y)=true:=by
 simp only[gE,List.length_set,aK,cr,cG]at a ⊢;refine⟨a.1,λx b=>?_⟩;rcases tz b with b|rfl
 ·exact a.2 x b
 ·exact c
section
variable {base db:Nat} {self:Int} {n D k:Nat} {nx:Int} {d:Dg} {w:ag} {l:List (Tm (D+1))} {bg bc:Nat} {sd:List (Int×Tm (D+1+n+1))} {sp:List (Int×ap×Tm (D+1+n+1))} {sv pv lv:ar}
theorem eJ.spawn(h:eJ base db self n D k nx d w l bg bc sd sp sv pv lv)(a:Ac (n+1))(aO:iY (n+1) base w a)(al:bG (n+1) a.2.1.2=0)(aM:a.1=2)(aZ:ei a.2.2.1=true)(bq:0<=a.2.2.2/\a.2.2.2<4)(a1:1<=self/\self<=99)(bk:k<=7):ao 187 #[aH db,PK a] w λe w'=>∃t,e=.returned (.bool t)/\Hid (zm base db self n D k nx d a (lX db bg sv pv lv) w t w'):=by
 have au:=h.pRow;obtain⟨N,O,rfl⟩:=ng au;obtain⟨f1,f2,f3,f4,f5,f6⟩:=h.few;obtain⟨m,Z⟩:∃m:Nat,a.2.2.2=(m:Int):=⟨a.2.2.2.toNat,by omega⟩;have a4:m<4:=by omega
 have bj:=(iE h.bnd).1;obtain⟨p,ay⟩:∃p,l[m]?=some p:=⟨l[m]'(by omega),aN _⟩;obtain⟨y1,y2,bv⟩:=h.row m p ay;have aS:d.b[m]?=some (cn (D+1) p):=by rw[<-h.tells,dh,ay];rfl
 have G:rK self a d=(tp d.b self (n+1) a.2.1.2).bind λt=>if p.1.1=6 then some {d with b:=d.b.set m (EC d.next),next:=d.next+1,spawns:=d.spawns++ [(d.next,a.2.2.1,t)]}else none:=by
  have aW:b8 ⟨13,(d.b[a.2.2.2.toNat]?).getD (EC 0)⟩=p.1.1:=by
   rw[Z,Int.toNat_natCast,aS];rfl
  have aX:¬a.1=1:=by omega
  unfold rK;rw[if_neg aX,if_pos aM,aW,Z,Int.toNat_natCast]
 obtain⟨a2,a3⟩:=h.told (self:=self) a.2.1.2 al
 have q:=EV (D+1+n) a.1 a.2.1.1.1.1 a.2.1.1.1.2.1 a.2.1.1.1.2.2 a.2.1.1.2.1.1 a.2.1.1.2.2.length a.2.1.1.2.1.2 a.2.1.2.1.1 a.2.1.2.1.2.1 a.2.1.2.1.2.2 a.2.1.2.2.1.1 a.2.1.2.2.2.length a.2.1.2.2.1.2 a.2.2.1 m base db N sp.length O _ w (oz 0 (vl (D+1) l self (n+1) a.2.1.2)) bg bc d.next p.1.1 p.1.2.1 p.1.2.2 p.2.1.1 p.2.2.length p.2.1.2 a4 (by omega) h.lt h.own.2.2.2.1 h.own.1 h.own.2.2.2.2 (by omega) (by omega) (by
   simp only[ei,rh,aK,cr]at aZ
   omega)
  ⟨ai h.box 4,ai h.box 0,ai h.box 2,λj=>uA h.box j,h.free⟩ au ⟨h.apart.1.2.1,h.apart.2.1.2.1⟩ y1 (λaE=>jL _ _ _ _ _ _ aE) (h.value a.2.1.2 aO.2.2.1 al a1)
 rw[<-Z]at q;refine q.mono ?_;rintro e w' ⟨rfl,Y,aB⟩;refine⟨_,rfl,?_⟩;rw[a2]at Y aB ⊢;cases f:tp d.b self (n+1) a.2.1.2 with
 | none=>
  have U:=Y (by rw[f];rfl);refine⟨aR U _,by rw[G,f];rfl,λT r=>?_⟩;rw[G,f]at r;cases r
 | some t=>
  by_cases F:p.1.1=6;rotate_left
  ·have U:=Y (by rw[f];simp[F]);refine⟨aR U _,by rw[G,f];simp[F],λT r=>?_⟩;rw[G,f]at r;simp[F]at r
  ·obtain⟨z,g,c,aC,y,E,ba,a8,R,a0,B,s,ax,aa,aw⟩:=aB (by rw[f];simp[F]);obtain⟨a5,_,bb⟩:=a3 z t f ba;have aP:aC.heap[db]?=_:=(B.block db h.lt λi=>h.apart.1.2.1 i).trans h.box;obtain⟨H,bd,be,S,bt⟩:=h.own;have bp:=B.size;have V:=(oS aP).2.1 (ae (some ⟨g,0,none⟩) (sp.length+1) c);rw[<-ax]at V;have u:bB (λb=>b=db) aC y:=by rw[ax];exact bK _ _ _ _
   have C:bB (λb=>b=bg) y E:=by
    rw[aa];exact bB.trans (oF y bg (m*4) _ _ _ _) (aR ((aA _ _).drew) _) λ_ _ e=>e
   have aQ:E.heap[db]?=_:=(C.block db (aI.1 V).1 H).trans V;have v:bB (λb=>b=db) E w':=by rw[aw];exact bK _ _ _ _
   have ah:=(oS aQ).2.2.2.1 (ab (d.next+1));rw[<-aw]at ah;have bm:=u.size;have bn:=C.size;have bo:=v.size;have ap:bB (lX db bg sv (ae N sp.length O) lv) w w':=bB.trans (bB.trans (bB.trans (B.mono λi _ f=>ak (ak (ak (aj f)))) u λi _ f=>aj f) C λi _ f=>ak (aj f)) v λi _ f=>aj f;have A:∀i,i<w.heap.size->¬(Value.slice N sp.length O).ownBlock=some i->g≠i:=λi f aY e=>by
    rcases s with s|s
    ·rw[e]at s;exact aY s
    ·omega
   have ag:∀i,lX db bg sv (ae (some ⟨g,0,none⟩) (sp.length+1) c) lv i->lX db bg sv (ae N sp.length O) lv i\/w.heap.size<=i:=λi f=>by
    rcases f with f|f|f|f|f
    ·exact aj (aj f)
    ·exact aj (ak (aj f))
    ·exact aj (ak (ak (aj f)))
    ·have:g=i:=az f;subst this;rcases s with s|s
     ·exact aj (ak (ak (ak (aj s))))
     ·exact ak s
    ·exact aj (ak (ak (ak (ak f))))
   obtain⟨bf,bh,bi,bu⟩:=h.frame ap ag;refine⟨ap,by rw[G,f];simp[F],λT r=>?_⟩;rw[G,f]at r;have r:some {d with b:=d.b.set m (EC d.next),next:=d.next+1,spawns:=d.spawns++ [(d.next,a.2.2.1,t)]}=some T:=by simpa [F]using r
   obtain rfl:=az r;have aq:∀i,lv.ownBlock=some i->i<w.heap.size:=λi f=>by
    obtain⟨aF,W⟩:=eI h.lRow i f;exact(aI.1 W).1
   have av:∀i,sv.ownBlock=some i->i<w.heap.size:=λi f=>by
    obtain⟨aF,W⟩:=eI h.sRow i f;exact(aI.1 W).1
   have P:¬(Value.slice N sp.length O).ownBlock=some bg:=h.apart.2.1.2.1;have a9:cv (Mu base db bg sv (ae (some ⟨g,0,none⟩) (sp.length+1) c) lv) _ z:=R.mono λi f=>by
    have:=h.lt;refine⟨by omega,λq=>?_⟩;rcases q with q|q|q|q|q
    ·omega
    ·omega
    ·have:=av i q;omega
    ·exact f.2 (az q).symm
    ·have:=aq i q;omega
   have ar:=Pl d.next D (by omega)
   -- the row of what is bound
   have I:∀j,y.cell? ⟨bg,j,none⟩=w.cell? ⟨bg,j,none⟩:=λj=>(u.cell j (by omega) (λe=>H e.symm)).trans (B.cell j S P);have K:∀j,w'.cell? ⟨bg,j,none⟩=E.cell? ⟨bg,j,none⟩:=λj=>v.cell j (by omega) (λe=>H e.symm);have J:∀j,E.cell? ⟨bg,j,none⟩=(cZ y bg (m*4) (ab 3) (ab d.next) (af ⟨#[]⟩) (ae none 0 0)).cell? ⟨bg,j,none⟩:=λj=>by
    rw[aa,G1]
   have aT:∀j,j<m*4\/m*4+4<=j->w'.cell? ⟨bg,j,none⟩=w.cell? ⟨bg,j,none⟩:=λj aV=>by
    rw[K,J,Cq j aV];exact I j
   have Q:=yz (w:=y) (g:=bg) (o:=m*4) (ab 3) (ab d.next) (af ⟨#[]⟩) (ae none 0 0) ⟨(I _).trans y1.1,(I _).trans y1.2.1,(I _).trans y1.2.2.1,(I _).trans y1.2.2.2⟩;refine⟨l.set m (bW 3 d.next D),bg,bc,sd,sp++ [(d.next,a.2.2.1,z)],sv,_,lv,⟨ah,⟨H,bd,be,by omega,by omega⟩,MP h.bnd m ar.1,?_,λad aD M=>?_,λj=>?_,?_,?_,?_,h.sIs,?_,bh,λx L=>?_,⟨⟨h.apart.1.1,?_,h.apart.1.2.2⟩,⟨h.apart.2.1.1,?_,h.apart.2.1.2.2⟩,λi=>⟨λf=>⟨λe=>?_,((h.apart.2.2 i).1 f).2⟩,λf e=>?_⟩⟩,⟨by omega,by simp;omega,by show d.links.length<=k+1;omega,by show d.next+1=nx+((sp++ [(d.next,a.2.2.1,z)]).length:Nat);simp;omega,f5,f6⟩⟩,ag⟩
   ·rw[List.map_set,h.tells,ar.2]
   ·by_cases am:m=ad
    ·subst am;rw[List.getElem?_set_self (by omega)]at M;obtain rfl:=az M;have an:=lN D 3 d.next (by unfold dI;omega) (by unfold dI;omega) w'.heap.size w' (Mu base db bg sv (ae (some ⟨g,0,none⟩) (sp.length+1) c) lv);refine⟨⟨?_,?_,?_,?_⟩,an.1,an.2⟩
     ·rw[K,J];exact Q.1
     ·rw[K,J];exact Q.2.1
     ·rw[K,J];exact Q.2.2.1
     ·rw[K,J];exact Q.2.2.2
    ·rw[List.getElem?_set_ne am]at M;exact⟨(h.row ad aD M).1.far λj br bs=>aT j (by omega),bf ad aD M⟩
   ·have aL:w'.frozen? ⟨bg,j,none⟩=E.frozen? ⟨bg,j,none⟩:=by
      unfold World.frozen?;rw[v.block bg (by omega) (λe=>H e.symm)]
    have aJ:E.frozen? ⟨bg,j,none⟩=y.frozen? ⟨bg,j,none⟩:=by
     rw[aa,Bz,tQ]
    have aG:y.frozen? ⟨bg,j,none⟩=w.frozen? ⟨bg,j,none⟩:=by
     unfold World.frozen?;rw[u.block bg (by omega) (λe=>H e.symm),B.block bg S P]
    rw[aL,aJ,aG];exact h.free j
   ·refine bw (bw (bw (bw h.sRow B λi f X=>((h.apart.2.2 i).1 f).1 X) u λi f e=>h.apart.1.1 (by rw[f,e])) C λi f e=>h.apart.2.1.1 (by rw[f,e])) v λi f e=>h.apart.1.1 (by rw[f,e])
   ·have:=bw (bw (bw a0 u λi f e=>A db h.lt h.apart.1.2.1 (by
      have:g=i:=az f
      rw[this,e])) C λi f e=>A bg S P (by
      have:g=i:=az f
      rw[this,e])) v λi f e=>A db h.lt h.apart.1.2.1 (by
      have:g=i:=az f
      rw[this,e])
    simpa using this
   ·refine bw (bw (bw (bw h.lRow B λi f X=>(h.apart.2.2 i).2 X f) u λi f e=>h.apart.1.2.2 (by rw[f,e])) C λi f e=>h.apart.2.1.2.2 (by rw[f,e])) v λi f e=>h.apart.1.2.2 (by rw[f,e])
   ·simp[h.pIs,bb]
   ·rcases cY.1 L with L|L
    ·exact bi x L
    ·obtain rfl:=dx.1 L;have bl:=h.lt;have a6:=a8.kee u (R.mono λi f e=>by omega);have a7:=a6.kee C (R.mono λi f e=>by omega);exact⟨a5,a7.kee v (R.mono λi f e=>by omega),a9⟩
   ·exact λe=>A db h.lt h.apart.1.2.1 (az e)
   ·exact λe=>A bg S P (az e)
   ·exact A i (av i f) (λz=>((h.apart.2.2 i).1 f).1 z) (az e)
   ·have aU:g=i:=az f;exact A i (aq i e) (λz=>(h.apart.2.2 i).2 z e) aU
end
def OC{n:Nat}(a:Ac (n+1)):Prop:=ou (n+1) a=true/\(a.1=1\/a.1=3->bG (n+1) a.2.1.1=0)/\(a.1=1\/a.1=2->bG (n+1) a.2.1.2=0)
theorem qB(self:Int){n:Nat}:(p q:List (Ac (n+1)))->(d:Dg)->qA self (p++q) d=(qA self p d).bind (qA self q)
 | [],_,_=>rfl
 | a::p,q,d=>by
  simp only[eR,qA];cases rK self a d with
  | none=>rfl
  | some b=>exact qB self p q b
theorem Kn(self:Int){n:Nat}{l:List (Ac (n+1))}{i:Nat}{a:Ac (n+1)}(b:l[i]?=some a)(d:Dg):qA self (l.take (i+1)) d=(qA self (l.take i) d).bind (rK self a):=by
 rw[dA,b,qB];congr 1;funext x;show qA self [a] x=rK self a x;simp only[qA];cases rK self a x<;>rfl
theorem Kl(self:Int){n:Nat}{l:List (Ac (n+1))}{i:Nat}{d:Dg}(a:qA self (l.take i) d=none):qA self l d=none:=by
 rw[<-iu i l,qB,a];rfl
section
variable {base db:Nat} {self:Int} {n D k:Nat} {nx:Int} {d:Dg} {w:ag} {l:List (Tm (D+1))} {bg bc:Nat} {sd:List (Int×Tm (D+1+n+1))} {sp:List (Int×ap×Tm (D+1+n+1))} {sv pv lv:ar}
theorem zm.from{a:Ac (n+1)}{S:aO}{W w':ag}{t:Bool}(b:zm base db self n D k nx d a S W t w')(c:am w W):zm base db self n D k nx d a S w t w':=⟨(aR c S).trans b.1 λ_ _ e=>e,b.2.1,λh l=>by
 obtain⟨o,g,f,s,u,v,r,p,i,j⟩:=b.2.2 h l;refine⟨o,g,f,s,u,v,r,p,i,λq m=>?_⟩;rcases j q m with e|e
 ·exact aj e
 ·have:=c.size
  exact ak (by omega)⟩
theorem iY.later{B:Nat}{a:Ac (n+1)}{W:ag}(b:iY (n+1) B w a)(c:Below B w W):iY (n+1) B W a:=⟨b.1,b.2.1.below c,b.2.2.1.below c,b.2.2.2⟩
theorem eJ.stop(a:eJ base db self n D k nx d w l bg bc sd sp sv pv lv):Do base db self n D (k+1) nx {d with stops:=true} (lX db bg sv pv lv) w (w.setCell ⟨db,6,none⟩ (.bool true))/\bB (lX db bg sv pv lv) w (w.setCell ⟨db,6,none⟩ (.bool true)):=by
 have e:=bK w db 6 (.bool true);obtain⟨s,t,u,y⟩:=a.frame (w':=w.setCell ⟨db,6,none⟩ (.bool true)) (e.mono λf _ b=>aj b) λf c=>aj c;obtain⟨g,q,r,m,x⟩:=a.own;have v:=e.size;obtain⟨f1,f2,f3,f4⟩:=a.few;refine⟨⟨l,bg,bc,sd,sp,sv,pv,lv,⟨(oS a.box).2.2.2.2 _,⟨g,q,r,by omega,by omega⟩,a.bnd,a.tells,λj o i=>⟨(a.row j o i).1.kee e m (λb=>g b.symm),s j o i⟩,λp=>?_,bw a.sRow e λf c b=>a.apart.1.1 (by rw[c,b]),bw a.pRow e λf c b=>a.apart.1.2.1 (by rw[c,b]),bw a.lRow e λf c b=>a.apart.1.2.2 (by rw[c,b]),a.sIs,a.pIs,t,u,a.apart,⟨by omega,by omega,by show d.links.length<=k+1;omega,f4⟩⟩,λf c=>aj c⟩,e.mono λf _ b=>aj b⟩;have h:=a.free p;unfold World.frozen? at h ⊢;rw[e.block bg m (λb=>g b.symm)];exact h
theorem eJ.one(c:eJ base db self n D k nx d w l bg bc sd sp sv pv lv)(a:Ac (n+1))(m:iY (n+1) base w a)(A:OC a)(p:1<=self/\self<=99)(y:k<=7):ao 154 #[aH db,PK a] w λe w'=>∃t,e=.returned (.bool t)/\Hid (zm base db self n D k nx d a (lX db bg sv pv lv) w t w'):=by
 obtain⟨f,r,s⟩:=A;have o:=c.own.2.2.2.2;refine Lc a.1 a.2.1.1.1.1 a.2.1.1.1.2.1 a.2.1.1.1.2.2 a.2.1.1.2.1.1 a.2.1.1.2.2.length a.2.1.1.2.1.2 a.2.1.2.1.1 a.2.1.2.1.2.1 a.2.1.2.1.2.2 a.2.1.2.2.1.1 a.2.1.2.2.2.length a.2.1.2.2.1.2 a.2.2.1 a.2.2.2 db w (zm base db self n D k nx d a (lX db bg sv pv lv) w) c.lt ⟨d.stops,ai c.box 6,uA c.box 6⟩ ?_ ?_ ?_ ?_
 ·intro i h b;refine((c.later b).send a (m.later (b.mono o)) (r (aj i)) (s (aj i)) i p (by omega)).mono ?_;rintro e w' ⟨t,rfl,g⟩;exact⟨t,rfl,g.from b⟩
 ·intro j h b;have x:ei a.2.2.1=true/\0<=a.2.2.2/\a.2.2.2<4:=by
   have z:¬a.1=1:=by omega
   unfold ou at f;rw[if_neg z,if_pos j]at f;simp only[aK,cr]at f;exact⟨f.1.1.2,f.1.2,f.2⟩
  refine((c.later b).spawn a (m.later (b.mono o)) (s (ak j)) j x.1 x.2 p y).mono ?_;rintro e w' ⟨t,rfl,g⟩;exact⟨t,rfl,g.from b⟩
 ·intro q h b;refine((c.later b).link a (m.later (b.mono o)) (r (ak q)) q p (by omega)).mono ?_;rintro e w' ⟨t,rfl,g⟩;exact⟨t,rfl,g.from b⟩
 ·intro B C E h b;have u:rK self a d=some {d with stops:=true}:=by
   unfold rK;rw[if_neg B,if_neg C,if_neg E]
  obtain⟨F,G⟩:=(c.later b).stop;refine zm.from ⟨G,by rw[u];rfl,λH v=>?_⟩ b;rw[u]at v;obtain rfl:=az v;exact F
theorem eJ.all(G:eJ base db self n D 0 nx d w l bg bc sd sp sv pv lv)(ac:List (Ac (n+1)))(K:au)(T:Nat)(N:qv base w 11 (gC (n+1)) (iY (n+1) base w) K ac)(ab:∀a∈ac,OC a)(W:ac.length<=8)(ad:1<=self/\self<=99):ao 116 #[aH db,ae K ac.length T] w λe w'=>∃t,e=.returned (.bool t)/\Hid (bB (lX db bg sv pv lv) w w'/\t=(qA self ac d).isSome/\∀g,qA self ac d=some g->Do base db self n D 8 nx g (lX db bg sv pv lv) w w'):=by
 have aa:=G.own.2.2.2.2;have Q:∀{c:ag},bB (lX db bg sv pv lv) w c->Below base w c:=λj=>j.below aa λb X k=>by
  have:=G.high b k;omega
 refine(JP ac K ac.length T db w (λi c=>bB (lX db bg sv pv lv) w c/\∃g,qA self (ac.take i) d=some g/\Do base db self n D i nx g (lX db bg sv pv lv) w c) (λc=>bB (lX db bg sv pv lv) w c/\qA self ac d=none) (by omega) rfl ?_ ?_ ?_ ?_).mono ?_
 ·rintro i a c h ⟨j,_⟩;rcases N with e|⟨b,o,e,R,I⟩
  ·rw[e]at h;simp at h
  ·exact⟨b,o,e,λS ax Z=>((Q j).cell (p:=⟨b,o+i*11+S,none⟩) R).trans ((I i a h).1 S ax Z)⟩
 ·rintro i c ay ⟨j,g,H,z,x,v,C,E,F,B,A,q,m⟩ M;exact⟨j.trans (aR M (λ_=>False)) λ_ _ e=>e.elim,g,H,z,x,v,C,E,F,B,A,q.later M,m⟩
 ·rintro i a c h ⟨j,g,H,z,x,v,C,E,F,B,A,q,m⟩;have aA:=(aY.1 h).1;have Y:iY (n+1) base c a:=by
   rcases N with e|⟨b,o,e,R,I⟩
   ·rw[e]at h;simp at h
   ·exact((I i a h).2).later (Q j)
  refine(q.one a Y (ab a (aL h)) ad (by omega)).mono ?_;rintro e w' ⟨t,rfl,u⟩;obtain⟨s,f,L⟩:=u.out;have y:=Kn self h d;rw[H]at y;simp only[dP]at y;have P:bB (lX db bg sv pv lv) w w':=j.trans s λb X k=>by
   rcases m b k with e|e
   ·exact e
   ·omega
  refine⟨t,rfl,λah=>⟨P,?_⟩,λaf=>⟨P,?_⟩⟩
  ·rw[ah]at f;obtain⟨d2,r⟩:=gm.1 f.symm;obtain⟨am,V,U,aq,ar,aw,ap,an,ai,al⟩:=L d2 r;refine⟨d2,by rw[y,r],am,V,U,aq,ar,aw,ap,an,ai,λk J=>?_⟩;rcases al k J with e|e
   ·exact m k e
   ·have:=j.size;exact ak (by omega)
  ·rw[af]at f;refine Kl self (i:=i+1) ?_;rw[y];exact lk.1 (by rw[<-lm,<-f];rfl)
 ·exact⟨bB.refl _ _,d,rfl,l,bg,bc,sd,sp,sv,pv,lv,G,λk J=>aj J⟩
 ·rintro e w' ⟨t,rfl,u⟩;refine⟨t,rfl,?_⟩;cases t
  ·obtain⟨s,f⟩:=u.out.2 rfl;refine⟨s,by rw[f];rfl,λg O=>?_⟩;rw[f]at O;cases O
  ·obtain⟨s,g,f,L⟩:=u.1 rfl;rw[bA (av _)]at f;refine⟨s,by rw[f];rfl,λd2 r=>?_⟩;rw[f]at r;obtain rfl:=az r;obtain⟨z,x,v,C,E,F,B,A,q,m⟩:=L;exact⟨z,x,v,C,E,F,B,A,q.more W,m⟩
end
theorem F9(N:Nat):bG (N+1) (bW 1 0 N)=0/\aT (N+1) (bW 1 0 N)=true/\sz (N+1) (bW 1 0 N)=0:=by
 have c:ci (N+1) (bW 1 0 N)=true:=by
  rw[<-aU];intro a b;have:a=((1,0,.empty),(none,0,0)):=by simpa [aC,bW]using b
  subst this;simp[cN,rh]
 exact⟨bJ.2 ⟨c,by simp[fP,bW],by simp[sz,bW]⟩,by simp[aT,bW],by simp[sz,bW]⟩
theorem Cd{ws:List Wd}{nm:List ap}{N:Nat}:dY ws nm (N+1) (bW 1 0 N) (1,0):=⟨λa=>by simp[bW]at a,λa=>by simp[bW]at a,λ_ _=>rfl⟩
theorem kp.numb{N:Nat}{ws:List Wd}{nm:List ap}{room:Int}{r:Wd}{h:List Wd}{s:Tm (N+1)}{g:List (Tm (N+1))}(i:kp (N+1) ws nm room (r::h) (s::g)):kp (N+1) ws nm room ((1,0)::h) (bW 1 0 N::g):=by
 obtain⟨e,f,j,k,l,m,n,o⟩:=i;obtain⟨p,q,u⟩:=F9 N;refine⟨⟨by simpa using e.1,λc t d b a=>?_⟩,?_,λd a=>?_,?_,l,m,n,o⟩
 ·cases c with
  | zero=>
   simp only[dc,gU]at b a;subst b a;exact Cd
  | succ c=>exact e.2 (c+1) t d (by simpa using b) (by simpa using a)
 ·simp only[bM]at f ⊢;rw[mY (by decide),iq];exact(fH.1 f).2.1
 ·rcases cU.1 a with rfl|a
  ·exact⟨p,q⟩
  ·exact j d (bT _ a)
 ·simp only[aV,bO]at k ⊢;have:=(fl (N+1) s).1;omega
theorem kp.turned{N:Nat}{ws:List Wd}{nm:List ap}{room:Int}{C v:Wd}{vs:List Wd}{s x:Tm (N+1)}{ms:List (Tm (N+1))}(n:kp (N+1) ws nm room (C::vs++ [v]) (s::ms++ [x]))(f:vs.length=ms.length):kp (N+1) ws nm room (v::vs) (x::ms):=by
 obtain⟨g,h,u,w,y,z,A,B⟩:=n;refine⟨⟨by simp[f],λd D e c a=>?_⟩,?_,λe a=>u e ?_,?_,y,z,A,B⟩
 ·cases d with
  | zero=>
   simp only[dc,gU]at c a;subst c a;exact g.2 (vs.length+1) v x (by simp) (by simp[f])
  | succ d=>
   simp only[dt]at c a;have o:=(aY.1 c).1;have p:=(aY.1 a).1;exact g.2 (d+1) D e (by rw[eR,dt,dw o];exact c) (by rw[eR,dt,dw p];exact a)
 ·simp only[eR,bM,ld,List.flatMap_nil,dL]at h ⊢;obtain⟨_,t,_⟩:=fH.1 h;obtain⟨j,k,l⟩:=fH.1 t;exact fH.2 ⟨k,j,λi q b r m=>l b r i q m.symm⟩
 ·rcases cU.1 a with rfl|a
  ·simp
  ·simp[a]
 ·simp only[eR,aV,gQ,bO,List.sum_append,cC,ir]at w ⊢;have:=(fl (N+1) s).1;omega
theorem sq(w:ag)(c:Nat)(a b:Int):b9 (λq=>q=c) w (uL w c a b):=(bC w c 5 (ab a)).trans (bC _ c 6 (ab b)) λ_ _ e=>e
theorem LN(w:ag)(c:Nat)(a b:Int):(uL w c a b).heap.size=w.heap.size:=by simp[uL,World.setCell]
theorem iH{S:aO}{w w':ag}(a:b9 S w w'):bB S w w':=⟨a.os,a.tape,a.output,a.size,a.block⟩
theorem jM{S:aO}{w w':ag}(a:bB S w w'):b9 S w w':=⟨a.os,a.tape,a.output,a.size,a.block⟩
section
variable {base pb:Nat} {name:ap} {room:Int} {N:Nat} {s:Tm (N+1)} {ms:List (Tm (N+1))} {xs:List (Wd×Tm (N+1))} {nk:Nat} {M:aO} {w:ag} {ws:List Wd} {nm:List ap} {sv:Wd} {vs:List Wd} {ma:au} {mc:Nat} {Mh:aO}
theorem jV.keptBox{v:Wd}(h:jV Mh ma vs mc w)(i:Mh pb):jV Mh ma vs mc (uL w pb v.1 v.2):=by
 rcases h with a|⟨d,j,e,f,b,c,g⟩
 ·exact aj a
 ·exact ak ⟨d,j,e,f,b,((sq w pb v.1 v.2).block d (aI.1 c).1 λa=>b (by rw[a];exact i)).trans c,g⟩
theorem dX.word{mv:ar}{v:Wd}(a:dX base (PL pb name sv mv) room ws nm M w):dX base (PL pb name v mv) room ws nm M (uL w pb v.1 v.2):=a.turn (sq w pb v.1 v.2) λtv lv mp b=>by
 unfold uL World.setCell;simp[bQ,b]
theorem cR.numb(a:cR base pb name room (N+1) s ms [] nk M w ws nm sv vs ma mc Mh):cR base pb name room (N+1) (bW 1 0 N) ms [] nk M (uL w pb 1 0) ws nm (1,0) vs ma mc Mh/\b9 M w (uL w pb 1 0):=by
 obtain⟨d,f⟩:=a.box0;have c:=a.has;simp only[cC,dL]at c;refine⟨⟨a.heap.word (v:=(1,0)),a.mail.keptBox (v:=(1,0)) d,?_,a.len,a.names,a.inM,a.mailM⟩,(sq w pb 1 0).mono λb e=>?_⟩
 ·simp only[cC,dL];exact c.numb
 ·rw[e];exact a.inM pb d
theorem cR.turned{v:Wd}{x:Tm (N+1)}(a:cR base pb name room (N+1) s ms [(v,x)] nk M w ws nm sv vs ma mc Mh):cR base pb name room (N+1) x ms [] nk M (uL w pb v.1 v.2) ws nm v vs ma mc Mh/\b9 M w (uL w pb v.1 v.2):=by
 obtain⟨d,f⟩:=a.box0;have c:=a.has;simp only[aV,cC]at c;refine⟨⟨a.heap.word,a.mail.keptBox d,?_,a.len,a.names,a.inM,a.mailM⟩,(sq w pb v.1 v.2).mono λb e=>?_⟩
 ·simp only[cC,dL];exact c.turned a.len
 ·rw[e];exact a.inM pb d
theorem cR.cells56(e:cR base pb name room (N+1) s ms xs nk M w ws nm sv vs ma mc Mh):(∃a,ah w pb 5 (ab a))/\(∃a,ah w pb 6 (ab a))/\∀j,w.frozen? ⟨pb,j,none⟩=false:=by
 obtain⟨i,g,h,f,_⟩:=e.heap.box;obtain⟨_,b,c,_,d,_⟩:=PL.cells f;exact⟨⟨_,b⟩,⟨_,c⟩,d⟩
def PO(base pb:Nat)(name:ap)(room:Int)(N:Nat)(s:Tm (N+1))(ms:List (Tm (N+1)))(x:Tm (N+1))(nk:Nat)(M:aO)(w:ag)(t:Bool)(w':ag):Prop:=
 t=decide ((ms.map (sz (N+1))).sum+sz (N+1) x<=room)/\b9 M w w'/\∃a i f g h d e c,cR base pb name room (N+1) a ms [] (nk+402) (λb=>M b\/w.heap.size<=b) w' i f g h d e c/\(t=true->a=x)/\(t=false->aB (N+1) a (N+1) s=true)
theorem yA{x:Tm (N+1)}{ms:List (Tm (N+1))}(a:bG (N+1) x=0)(b:aT (N+1) x=true):tb (N+1) x room (bW 1 0 N::ms)=if (ms.map (sz (N+1))).sum+sz (N+1) x<=room then 0 else 6:=by
 unfold tb;rw[if_neg (by simp[a]),if_neg (by simp[b])];simp only[aV,bO,(F9 N).2.2,Int.zero_add]
theorem cR.become(k:cR base pb name room (N+1) s ms [] nk M w ws nm sv vs ma mc Mh)(x:Tm (N+1))(aD:In w.heap.size w (N+1) x)(L:cv (λb=>¬M b) (N+1) x)(E:bG (N+1) x=0)(ai:aT (N+1) x=true)(m:∀b,M b->b<w.heap.size)(a6:nk<=48000)(B:ms.length<=999)(a5:base<=w.heap.size):ao 118 #[aH pb,.agg #[ab x.1.1,ab x.1.2.1,af x.1.2.2,ae x.2.1.1 x.2.2.length x.2.1.2]] w λe w'=>∃t,e=.returned (.bool t)/\Hid (PO base pb name room N s ms x nk M w t w'):=by
 obtain⟨ar,au⟩:=k.box0;have a4:M pb:=k.inM pb ar;have u:=k.front;have P:=u.2.2.1 s (by simp);have aA:(ms.map (sz (N+1))).sum+sz (N+1) s<=room:=by
  have ah:=u.2.2.2.1;have a3:=u.2.2.2.2.1;simp only[aV,bO]at ah;omega
 refine A8 x.1.1 x.1.2.1 x.1.2.2 x.2.1.1 x.2.2.length x.2.1.2 pb w (λT U V sa sl sc f=>∃y0:Tm (N+1),(T=y0.1.1/\U=y0.1.2.1/\V=y0.1.2.2/\sa=y0.2.1.1/\sl=y0.2.2.length/\sc=y0.2.1.2)/\In f.heap.size f (N+1) y0/\cv (λa=>w.heap.size<=a) (N+1) y0/\aB (N+1) y0 (N+1) s=true) (λ_ _ _ _=>True) (PO base pb name room N s ms x nk M w) ?_ ?_ ?_
 ·intro f d;refine((k.later d).state (by omega)).mono ?_;rintro e w' ⟨a0,rfl,o⟩;exact⟨_,_,_,_,_,_,rfl,o.1,a0,⟨rfl,rfl,rfl,rfl,rfl,rfl⟩,o.2.1,o.2.2.1.mono λa O=>by have:=d.size;omega,o.2.2.2⟩
 ·intro f d;obtain⟨ag,b,c⟩:=(k.later d).cells56;exact⟨ag,b,c,au⟩
 ·rintro T U V sa sl sc a2 j aR aS ⟨y0,⟨rfl,rfl,rfl,rfl,rfl,rfl⟩,Q,R,q⟩ D r a7 a8 p;have ba:=r.size;obtain⟨an,I⟩:=(k.later r).numb;have bc:=LN j pb 1 0;have H:b9 M w (uL j pb 1 0):=(bq r M).trans I λ_ _ e=>e;have aE:In (uL j pb 1 0).heap.size (uL j pb 1 0) (N+1) x:=aD.kee (iH H) L;have av:=an.put x aE L (fw E) (λb h=>by have:=m b h;omega) (by omega) B (by omega);refine av.mono ?_;rintro e w' ⟨W,rfl,Y⟩;obtain⟨aY,aP,be,aW,aL,aN,aa,i,n⟩:=Y;have F:=yA (room:=room) (ms:=ms) E ai;have K:b9 M w w':=H.trans n λ_ _ e=>e;have bb:=n.size;refine⟨W,_,rfl,⟨?_,?_,i.cells56.1,i.cells56.2.1,i.cells56.2.2⟩,trivial,?_,?_⟩
  ·exact(n.block aR (aI.1 p.1).1 λa=>by have:=m _ a;omega).trans p.1
  ·exact(n.block aS (aI.1 p.2.1).1 λa=>by have:=m _ a;omega).trans p.2.1
  ·intro g f d;rw[if_pos g]at i;obtain⟨z,v⟩:=(i.later d).turned;rw[F]at g;have al:(ms.map (sz (N+1))).sum+sz (N+1) x<=room:=by
    by_cases a:(ms.map (sz (N+1))).sum+sz (N+1) x<=room
    ·exact a
    ·rw[if_neg a]at g;cases g
   refine⟨by simp[al],(K.trans (bq d M) λ_ _ e=>e).trans v λb h a=>?_,x,aY,aP,W,aW,aL,aN,aa,z.mono (λb a=>?_) (by omega),λ_=>rfl,λa=>by cases a⟩
   ·rcases a with a|a
    ·exact a
    ·omega
   ·rcases a with a|a
    ·exact aj a
    ·exact ak (by omega)
  ·intro g f aU d a9 aw;rw[if_neg g]at i;have am:¬(ms.map (sz (N+1))).sum+sz (N+1) x<=room:=λa=>g (by rw[F,if_pos a]);have aq:=(i.inside.later d);have az:=d.size;have aK:=In.offB R Q;have ay:=D.size;have A:bG (N+1) y0=0/\aT (N+1) y0=true:=⟨(bZ q).trans P.1,(cO _ _ _ _ q).trans P.2⟩;have aF:In j.heap.size j (N+1) y0:=(Q.below D).mono ay;have S:cv (λb=>¬M b) (N+1) y0:=R.mono λa O l=>by have:=m a l;omega
   have aG:In w'.heap.size w' (N+1) y0:=(aF.kee (iH I) S).kee (iH n) S;have aJ:In f.heap.size f (N+1) y0:=(aG.below d).mono az;have G:=yA (room:=room) (ms:=ms) A.1 A.2;have aC:=mm _ _ _ _ q;rw[if_pos (by rw[aC];exact aA)]at G;refine(aq.put y0 aJ (aK.mono λa O l=>?_) (fw A.1) (λb h=>by have:=h.2;omega) (by omega) B (by omega)).mono ?_
   ·rcases l.1 with l|l
    ·have:=m a l;omega
    ·omega
   ·rintro e bg ⟨X,rfl,Z⟩;obtain⟨aZ,aQ,bf,aX,aM,aO,ad,y,J⟩:=Z;rw[if_pos G]at y;refine⟨X,_,rfl,λbd ap=>(J.block aU aw λa=>by have:=a.2;omega).trans ap,y.cells56,λa1 C=>?_⟩;have ax:=y.kept (jM C) λb a _ e=>by
     rcases a with a|a
     ·have:=a.2;omega
     ·omega
    obtain⟨z,v⟩:=ax.turned;refine⟨by simp[am],?_,y0,aZ,aQ,X,aX,aM,aO,ad,z.mono (λb a=>?_) (by omega),λa=>(by cases a),λ_=>q⟩
    ·refine((((K.trans (bq d M) λ_ _ e=>e).trans J λb h a=>?_).trans (jM C) λb h a=>?_)).trans v λb h a=>?_
     ·rcases a.1 with a|a
      ·exact a
      ·omega
     ·omega
     ·rcases a with a|a
      ·rcases a.1 with a|a
       ·exact a
       ·omega
      ·omega
    ·rcases a with a|a
     ·rcases a.1 with a|a
      ·exact aj a
      ·exact ak (by omega)
     ·exact ak (by omega)
end
theorem fX{n:Nat}{x:Tm (n+1)}(e:bG (n+1) x=0){y:Tm n}(a:y∈x.2.2):bG n y=0:=by
 obtain⟨f1,f2,f3⟩:=bJ.1 e;have c:aJ ⟨n+1,x⟩:=aU.2 f1;have g:=oC c a;have d:=eV (bL n x) (c (bL n x) (by simp[aC,bL]));have b:x.1.1=4:=by
  by_cases b:x.1.1=4
  ·exact b
  ·have:x.2.2=[]:=bI (d.2.2.2.2 b);rw[this]at a;cases a
 have f:=uG (λy=>1+sz n y) (λy=>by have:=(fl n y).1;omega) x.2.2 y a;simp only[sz,if_pos b]at f3
 exact bJ.2 ⟨aU.1 (bi n x y c a),by omega,by
  have h:1+sz n y<=(x.2.2.map λy=>1+sz n y).sum:=f.1
  omega⟩
theorem vi{n:Nat}{x:Tm (n+1)}(a:bG (n+1) x=0)(i:Nat){y:Tm n}(b:x.2.2[i]?=some y):bG n y=0:=fX a (aL b)
theorem qX{n N:Nat}(c:n<=N)(x:Tm (n+1))(a:bG (N+1) (aZ (N+1) (n+1) x)=0):bG (n+1) x=0:=by
 have e:aJ ⟨n+1,x⟩:=λb d=>(aU.2 (bJ.1 a).1) b (by rw[nR N n c x];exact d);rw[<-bZ (fN (N+1) (n+1) (by omega) x e)];exact a
def qt{n:Nat}(c:Cl (n+1)):Prop:=bG (n+1) c.1.1=0/\bG (n+1) c.1.2.1=0/\bG (n+1) c.1.2.2=0/\c.2.2.length<=8/\∀a∈c.2.2,OC a
theorem Gd{n:Nat}{p:List (Bh (n+1))}(d:mF n p=0):kO (n+1) p=true/\∀b∈p,b.2.2.length<=6/\∀c∈b.2.2,qt c:=by
 unfold mF at d;cases e:kO (n+1) p with
 | false=>rw[e]at d;cases d
 | true=>
  rw[e,if_pos rfl]at d;refine⟨rfl,λb l=>?_⟩;unfold kO at e;simp only[aK,cG]at e;have h:=e.2 b l;unfold xi at h;simp only[aK,cG,cr]at h;refine⟨by omega,λc m=>?_⟩;have i:=h.2 c m;unfold uc at i;simp only[aK,cG,cr]at i;have o:bG (n+5) (ee n b)=0:=fX d (by simp only[cg,dr];exact bT _ (lg l));have f:bG (n+4) (dU n c)=0:=fX o (by simp only[ee,dr];exact bT _ (bT _ (lg m)));have s:bG (n+3) (dr (n+2) (c.2.2.map (cE n)))=0:=vi f 3 rfl;refine⟨qX (N:=n+2) (by omega) _ (vi f 1 rfl),qX (N:=n+2) (by omega) _ (vi f 2 rfl),qX (N:=n+2) (by omega) _ (vi f 4 rfl),by omega,λj k=>?_⟩;have g:bG (n+2) (cE n j)=0:=fX s (by simp only[dr];exact lg k);refine⟨i.2 j k,λr=>?_,λq=>?_⟩
  ·rcases r with a|a
   ·exact fX g (by simp[cE,a,dr])
   ·exact fX g (by simp[cE,a,dr])
  ·rcases q with a|a
   ·exact fX g (by simp[cE,a,dr])
   ·exact fX g (by simp[cE,a,dr])
section
variable {base db:Nat} {self:Int} {n D k:Nat} {nx:Int} {d:Dg} {w:ag} {l:List (Tm (D+1))} {bg bc:Nat} {sd:List (Int×Tm (D+1+n+1))} {sp:List (Int×ap×Tm (D+1+n+1))} {sv pv lv:ar}
theorem eJ.kept(a:eJ base db self n D k nx d w l bg bc sd sp sv pv lv){S:aO}{w':ag}(i:bB S w w')(m:∀b,base<=b->b<w.heap.size->¬S b):eJ base db self n D k nx d w' l bg bc sd sp sv pv lv:=by
 have Q:=i.size;obtain⟨L,B,v,p,R⟩:=a.own;have s:∀{g:Nat}{x:Tm g},In w.heap.size w g x->cv (Mu base db bg sv pv lv) g x->In w'.heap.size w' g x:=λG H=>G.kee (i.mono (T:=λb=>S b/\b<w.heap.size) λb E f=>⟨f,E⟩) (H.mono λf h (e:S f/\f<w.heap.size)=>m f h.1 e.2 e.1);have u:∀{q:TypeId}{e g:Nat}{y:ar}{z:List ar},w.ownsRow base q e y g z->w'.ownsRow base q e y g z:=λ{q e g y z} t=>bw t i λf h o=>by
  obtain⟨N,F⟩:=eI t f h;refine m f ?_ (aI.1 F).1 o;rcases t.2 with⟨r,_⟩|⟨C,cap,O,r,P,_⟩
  ·rw[r]at h;cases h
  ·rw[r]at h;have:C=f:=az h;omega
 refine⟨(i.block db a.lt (m db B a.lt)).trans a.box,⟨L,B,v,by omega,by omega⟩,a.bnd,a.tells,λJ M I=>?_,λK=>?_,u a.sRow,u a.pRow,u a.lRow,a.sIs,a.pIs,λe o=>?_,λe o=>?_,a.apart,a.few⟩
 ·obtain⟨j,b,c⟩:=a.row J M I;exact⟨j.kee i p (m bg v p),s b c,c⟩
 ·have A:=a.free K;unfold World.frozen? at A ⊢;rw[i.block bg p (m bg v p)];exact A
 ·obtain⟨j,b,c⟩:=a.sIn e o;exact⟨j,s b c,c⟩
 ·obtain⟨j,b,c⟩:=a.pIn e o;exact⟨j,s b c,c⟩
theorem eJ.low(b:eJ base db self n D k nx d w l bg bc sd sp sv pv lv):∀q,lX db bg sv pv lv q->q<w.heap.size:=by
 have c:∀{f:TypeId}{i g q:Nat}{e:ar}{h:List ar},w.ownsRow base f i e g h->e.ownBlock=some q->q<w.heap.size:=λ{f i g q e h} m a=>by
  obtain⟨o,j⟩:=eI m q a;exact(aI.1 j).1
 intro q a;rcases a with rfl|rfl|a|a|a
 ·exact b.lt
 ·exact b.own.2.2.2.1
 ·exact c b.sRow a
 ·exact c b.pRow a
 ·exact c b.lRow a
def PT(u t:Nat)(name:ap)(room:Int)(s:Tc)(ms:List Tc)(q:Nat)(M:aO)(base db:Nat)(self:Int)(n D:Nat)(nx:Int)(c:Cl (n+1))(b:List Tc)(S:aO)(w:ag)(f:Int)(w':ag):Prop:=
 f=(fD room self nx (cn 13 s) (cn 13 s) (ms.map (cn 13)) c b).fate/\bB (λa=>M a\/S a) w w'/\(∃j z r e y o p k,cR u t name room 13 j ms [] (q+402) (λa=>M a\/w.heap.size<=a) w' z r e y o p k/\cn 13 j=(fD room self nx (cn 13 s) (cn 13 s) (ms.map (cn 13)) c b).state)/\
  ((f=0\/f=1)->∃d m g l v x e i h,eJ base db self n D 8 nx d w' m g l v x e i h/\d.sends=(fD room self nx (cn 13 s) (cn 13 s) (ms.map (cn 13)) c b).sends/\d.spawns=(fD room self nx (cn 13 s) (cn 13 s) (ms.map (cn 13)) c b).spawns/\d.links=(fD room self nx (cn 13 s) (cn 13 s) (ms.map (cn 13)) c b).links/\∀a,lX db g e i h a->¬(M a\/w'.heap.size<=a))
theorem Px{ms:List Tc}(a:∀y∈ms,bG 13 y=0):((ms.map (cn 13)).map (sz 13)).sum=(ms.map (sz 13)).sum:=by
 rw[gR];congr 1;exact jC λy b=>FF (a y b)
theorem DT{Q I:Nat}{name:ap}{room:Int}{s:Tc}{ms:List Tc}{P:Nat}{M:aO}{ws:List Wd}{nm:List ap}{aq:Wd}{vs:List Wd}{ma:au}{ah:Nat}{Mh:aO}{b:List Tc}(a6:cR Q I name room 13 s ms [] P M w ws nm aq vs ma ah Mh)(T:eJ base db self n D 0 nx d w l bg bc sd sp sv pv lv)(aE:d=⟨b,nx,[],[],[],false⟩)(c:Cl (n+1))(a1:iz (n+1) base w c)(bq:qt c)(a7:1<=self/\self<=99)(L:∀q,M q->q<base)(bN:Q<=base)(bp:P<=48000)(bl:ms.length<=999):ao 79 #[aH I,.agg (fq (n+1) c).toArray,aH db] w λe w'=>∃f,e=.returned (ab f)/\PT Q I name room s ms P M base db self n D nx c b (lX db bg sv pv lv) w f w':=by
 obtain⟨bL,bM,aY,bh,bi⟩:=bq;have aK:=T.own.2.2.2.2;have bn:∀{h:ag},bB (lX db bg sv pv lv) w h->Below base w h:=λm=>m.below aK λb E q=>by
  have:=T.high b q;omega
 have aL:∀{h:ag},bB (lX db bg sv pv lv) w h->cR Q I name room 13 s ms [] P M h ws nm aq vs ma ah Mh:=λm=>a6.kept (N:=12) (jM m) λb E _ q=>by
  have:=L b E;have:=T.high b q;omega
 have aF:∀{h:ag},bB (lX db bg sv pv lv) w h->bB (λq=>M q\/lX db bg sv pv lv q) w h:=λm=>m.mono λq _ a=>ak a;have bo:∀g∈ms,bG 13 g=0:=λg bw=>(a6.front.2.2.1 g (bT _ bw)).1
 refine BF (D+1+n) c.1.1.1.1 c.1.1.1.2.1 c.1.1.1.2.2 c.1.1.2.1.1 c.1.1.2.2.length c.1.1.2.1.2 c.1.2.1.1.1 c.1.2.1.1.2.1 c.1.2.1.1.2.2 c.1.2.1.2.1.1 c.1.2.1.2.2.length c.1.2.1.2.1.2 c.2.1.1 c.2.2.length c.2.1.2 c.1.2.2.1.1 c.1.2.2.1.2.1 c.1.2.2.1.2.2 c.1.2.2.2.1.1 c.1.2.2.2.2.length c.1.2.2.2.1.2 I db w
  (λh=>bB (lX db bg sv pv lv) w h/\∃i x v u A B C z y,qA self c.2.2 d=some i/\eJ base db self n D 8 nx i h x v u A B C z y)
  (λt g S=>∃h i x v u A B C z y,bB (lX db bg sv pv lv) w h/\qA self c.2.2 d=some i/\eJ base db self n D 8 nx i h x v u A B C z y/\am h S/\In S.heap.size S (D+1+n+1) g/\cv (λq=>h.heap.size<=q) (D+1+n+1) g/\t=(tp i.b self (n+1) c.1.2.2).isSome/\∀r,tp i.b self (n+1) c.1.2.2=some r->bG _ g=0/\aT _ g=true/\cn _ g=r)
  (PT Q I name room s ms P M base db self n D nx c b (lX db bg sv pv lv) w) ?_ ?_ ?_ ?_
 ·intro h Y;refine((T.later Y).all c.2.2 c.2.1.1 c.2.1.2 ?_ bi bh a7).mono ?_
  ·rcases a1.2.2 with e|⟨q,o,e,a,a2⟩
   ·exact aj e
   ·exact ak ⟨q,o,e,a,λaQ aX a4=>⟨λa9 bH bm=>(Y.cell (p:=⟨q,o+aQ*11+a9,none⟩) (aW a aK)).trans ((a2 aQ aX a4).1 a9 bH bm),((a2 aQ aX a4).2).later (Y.mono aK)⟩⟩
  ·rintro e w' ⟨t,rfl,aB⟩;obtain⟨ar,J,aS⟩:=aB.out;have m:bB (lX db bg sv pv lv) w w':=(aR Y _).trans ar λ_ _ e=>e;refine⟨t,rfl,λq bQ a a5=>(ar.block q (aI.1 a5).1 λk=>by have:=T.low q k;omega).trans a5,λG=>⟨m,?_⟩,λaa=>?_⟩
   ·rw[G]at J;obtain⟨d2,a3⟩:=gm.1 J.symm;obtain⟨bz,bf,be,bE,bF,R,bC,bA,bx,_⟩:=aS d2 a3;exact⟨d2,bz,bf,be,bE,bF,R,bC,bA,a3,bx⟩
   ·rw[aa]at J;have Z:qA self c.2.2 d=none:=lk.1 (by rw[<-lm,<-J];rfl);rw[aE]at Z;have j:fD room self nx (cn 13 s) (cn 13 s) (ms.map (cn 13)) c b=⟨cn 13 s,2,[],[],[],cn 13 s,ms.map (cn 13)⟩:=by simp[fD,Z]
    refine⟨by rw[j],aF m,⟨s,ws,nm,aq,vs,ma,ah,Mh,(aL m).mono (N:=12) (λq a=>aj a) (by omega),by rw[j]⟩,λk=>?_⟩;omega
 ·rintro h ⟨m,i,x,v,u,A,B,C,z,y,F,K⟩;obtain⟨t1,t2⟩:=K.told (self:=self) c.1.2.2 aY;refine(K.value c.1.2.2 (a1.1.2.2.below (bn m)) aY a7 h (aA _ _)).mono ?_;rintro e w' ⟨g,rfl,bd⟩;obtain⟨y1,y2,aV,W⟩:=bd;exact⟨g,_,rfl,h,i,x,v,u,A,B,C,z,y,m,F,K,y1,y2,aV,t1,λr G=>t2 g r G W⟩
 ·rintro g S aC ⟨h,i,x,v,u,A,B,C,z,y,m,F,K,y1,_,_,W,_⟩ E;have Z:tp i.b self (n+1) c.1.2.2=none:=lk.1 (by rw[<-lm,<-W];rfl);rw[aE]at F;have j:fD room self nx (cn 13 s) (cn 13 s) (ms.map (cn 13)) c b=⟨cn 13 s,2,[],[],[],cn 13 s,ms.map (cn 13)⟩:=by simp[fD,F,Z]
  have U:bB (lX db bg sv pv lv) w aC:=(m.trans (aR y1 (λ_=>False)) λ_ _ e=>e.elim).trans (aR E (λ_=>False)) λ_ _ e=>e.elim;refine⟨by rw[j],aF U,⟨s,ws,nm,aq,vs,ma,ah,Mh,(aL U).mono (N:=12) (λq a=>aj a) (by omega),by rw[j]⟩,λk=>?_⟩;omega
 ·rintro g S aC ⟨h,i,x,v,u,A,B,C,z,y,m,F,K,y1,y2,aV,W,bI⟩ E;obtain⟨r,G⟩:=gm.1 W.symm;obtain⟨az,bK,bb⟩:=bI r G;rw[aE]at F;have bP:=m.size;have bO:=y1.size;have br:=E.size;have U:bB (lX db bg sv pv lv) w aC:=(m.trans (aR y1 (λ_=>False)) λ_ _ e=>e.elim).trans (aR E (λ_=>False)) λ_ _ e=>e.elim;have aP:aJ ⟨D+1+n+1,g⟩:=aU.2 (bJ.1 az).1;have aN:fP (D+1+n+1) g<13:=by have:=(bJ.1 az).2.1;omega
  have ae:=jN 13 (D+1+n+1) g aP aN;have bs:=sZ 13 (D+1+n+1) g _ _ aP aN ((y2.below E).mono br);have bu:=uE 13 (D+1+n+1) g _ aP aN aV;have bt:(aZ 13 (D+1+n+1) g).2.2.length=g.2.2.length:=by simp[aZ]
  have a8:cn 13 (aZ 13 (D+1+n+1) g)=r:=(iF ae).trans bb;have bv:sz 13 (aZ 13 (D+1+n+1) g)=sz 13 r:=by
   rw[mm _ _ _ _ ae,<-bb,FF az]
  have a0:=(aL U).become (N:=12) (aZ 13 (D+1+n+1) g) bs (bu.mono λq a k=>by have:=L q k;omega) ((bZ ae).trans az) ((cO _ _ _ _ ae).trans bK) (λq k=>by have:=L q k;omega) bp bl (by omega);rw[bt]at a0;refine a0.mono ?_;rintro e w' ⟨t,rfl,aB⟩;obtain⟨ar,J,aw,ay,an,R,ax,af,al,X,aS,ba,bD⟩:=aB;have O:t=decide (((ms.map (cn 13)).map (sz 13)).sum+sz 13 r<=room):=by
   rw[Px bo,<-bv];exact ar
  have aG:bB (λq=>M q\/lX db bg sv pv lv q) w w':=(aF U).trans (iH J) λq _ a=>aj a
  have aD:cR Q I name room 13 aw ms [] (P+402) (λq=>M q\/w.heap.size<=q) w' ay an R ax af al X:=aS.mono (N:=12) (λq a=>by
   rcases a with a|a
   ·exact aj a
   ·exact ak (by omega)) (av _)
  have H:eJ base db self n D 8 nx i w' x v u A B C z y:=((K.later y1).later E).kept (iH J) λq a _ k=>by
   have:=L q k;omega
  refine⟨t,rfl,λaa=>?_,λad=>⟨i.stops,ai H.box 6,λaM=>?_,λaM=>?_⟩⟩
  ·rw[aa]at O;have V:¬((ms.map (cn 13)).map (sz 13)).sum+sz 13 r<=room:=of_decide_eq_false O.symm;have j:fD room self nx (cn 13 s) (cn 13 s) (ms.map (cn 13)) c b=⟨cn 13 s,3,[],[],[],cn 13 s,ms.map (cn 13)⟩:=by
    unfold fD;simp only[F,G];rw[if_neg V]
   refine⟨by rw[j],aG,⟨aw,ay,an,R,ax,af,al,X,aD,by rw[j];exact iF (bD aa)⟩,λk=>?_⟩;omega
  ·rw[ad]at O;have V:((ms.map (cn 13)).map (sz 13)).sum+sz 13 r<=room:=fK O.symm;have j:fD room self nx (cn 13 s) (cn 13 s) (ms.map (cn 13)) c b=⟨cn 13 s,1,i.sends,i.spawns,i.links,r,ms.map (cn 13)⟩:=by
    unfold fD;simp only[F,G];rw[if_pos V,aM];rfl
   refine⟨by rw[j],aG,⟨aw,ay,an,R,ax,af,al,X,aD,by rw[j,ba ad];exact a8⟩,λ_=>⟨i,x,v,u,A,B,C,z,y,H,by rw[j],by rw[j],by rw[j],λq a k=>?_⟩⟩;have bj:=H.high q a;have bk:=H.low q a;rcases k with k|k
   ·have:=L q k;omega
   ·omega
  ·rw[ad]at O;have V:((ms.map (cn 13)).map (sz 13)).sum+sz 13 r<=room:=fK O.symm;have j:fD room self nx (cn 13 s) (cn 13 s) (ms.map (cn 13)) c b=⟨cn 13 s,0,i.sends,i.spawns,i.links,r,ms.map (cn 13)⟩:=by
    unfold fD;simp only[F,G];rw[if_pos V,aM];rfl
   refine⟨by rw[j],aG,⟨aw,ay,an,R,ax,af,al,X,aD,by rw[j,ba ad];exact a8⟩,λ_=>⟨i,x,v,u,A,B,C,z,y,H,by rw[j],by rw[j],by rw[j],λq a k=>?_⟩⟩;have bj:=H.high q a;have bk:=H.low q a;rcases k with k|k
   ·have:=L q k;omega
   ·omega
end
def QM{n:Nat}(c:Cl (n+1)):ar:=.agg #[ab c.1.1.1.1,ab c.1.1.1.2.1,af c.1.1.1.2.2,ae c.1.1.2.1.1 c.1.1.2.2.length c.1.1.2.1.2,ab c.1.2.1.1.1,ab c.1.2.1.1.2.1,af c.1.2.1.1.2.2,ae c.1.2.1.2.1.1 c.1.2.1.2.2.length c.1.2.1.2.1.2,ae c.2.1.1 c.2.2.length c.2.1.2,ab c.1.2.2.1.1,ab c.1.2.2.1.2.1,af c.1.2.2.1.2.2,ae c.1.2.2.2.1.1 c.1.2.2.2.2.length c.1.2.2.2.1.2]
def QR{N:Nat}(x:Tm (N+1)):List ar:=[ab x.1.1,ab x.1.2.1,af x.1.2.2,ae x.2.1.1 x.2.2.length x.2.1.2]
def Qq{N:Nat}(x:Tm (N+1)):ar:=.agg #[ab x.1.1,ab x.1.2.1,af x.1.2.2,ae x.2.1.1 x.2.2.length x.2.1.2]
def DG{n N:Nat}(i:Nat)(y:Tm (N+1))(c:Cl (n+1))(a:au)(len b:Nat):List ar:=ab i::(QR y++fq (n+1) c++ [ae a len b])
def GO:List ar:=[ab 0,ab 0,ab 0,af ⟨#[]⟩,ae none 0 0,ab 0,ab 0,af ⟨#[]⟩,ae none 0 0,ab 0,ab 0,af ⟨#[]⟩,ae none 0 0,ae none 0 0,ab 0,ab 0,af ⟨#[]⟩,ae none 0 0,ae none 0 0]
def Q4{n N:Nat}(l:List (Cl (n+1)))(M L:Nat)(g:Nat->Nat->Bool)(R:Tm (N+1)->List (Tm (N+1))->ag->Prop)(r:Nat->Nat->au->Nat->Nat->ag->ag->Prop)(w:ag)(e:Ending)(w':ag):Prop:=
 (e=.returned (.tuple #[.agg GO.toArray,.bool false])/\Hid ((∀a d,a<M->d<L->g a d=false)/\am w w'))\/
  ∃(a d:Nat)(p:Tm (N+1))(c:Cl (n+1))(k:au)(len m:Nat),e=.returned (.tuple #[.agg (DG a p c k len m).toArray,.bool true])/\Hid (∃s q h i j,R s q h/\q[a]?=some p/\l[d]?=some c/\g a d=true/\(∀o f,o<a->f<L->g o f=false)/\(∀f,f<d->g a f=false)/\am w h/\am h i/\am i j/\r a d k len m i j/\bB (λb=>b=w.heap.size) j w'/\w.heap.size<h.heap.size)
theorem results_cell_tmp{P:Program}{fn:Func}{tmps:Array ar}{w:ag}{i j:Nat}{ty:TypeId}{p:Addr}{v x:ar}(b:fn.results= #[.cell i ty,.tmp j])(a:tmps.getD i undef=.pointer (some p))(c:(loadVar ty p).run P w=.ok v w)(d:tmps.getD j undef=x):(results fn tmps).run P w=.ok (.tuple #[v,x]) w:=by
 simp only[results,b];rw[<-d];rw[Array.getD_eq_getD_getElem?]at a;simp[a,asAddr,c]
theorem jg:(Tryz.prog.info? 164).map (·.size)=some 19:=by kernel_rfl
theorem FB:(GO.toArray.all (·.oneCell'))=true:=all_oneCell_toArray λv a=>by
 simp only[GO,cU,gS,gX]at a;rcases a with rfl|rfl|rfl|rfl|rfl|rfl|rfl|rfl|rfl|rfl|rfl|rfl|rfl|rfl|rfl|rfl|rfl|rfl|rfl<;>rfl
theorem FC{n N:Nat}(i:Nat)(y:Tm (N+1))(c:Cl (n+1))(a:au)(len d:Nat):((DG i y c a len d).toArray.all (·.oneCell'))=true:=all_oneCell_toArray λv b=>by
 have b:v∈[Value.int .i64 i,ab y.1.1,ab y.1.2.1,af y.1.2.2,ae y.2.1.1 y.2.2.length y.2.1.2,ab c.1.1.1.1,ab c.1.1.1.2.1,af c.1.1.1.2.2,ae c.1.1.2.1.1 c.1.1.2.2.length c.1.1.2.1.2,ab c.1.2.1.1.1,ab c.1.2.1.1.2.1,af c.1.2.1.1.2.2,ae c.1.2.1.2.1.1 c.1.2.1.2.2.length c.1.2.1.2.1.2,ae c.2.1.1 c.2.2.length c.2.1.2,ab c.1.2.2.1.1,ab c.1.2.2.1.2.1,af c.1.2.2.1.2.2,ae c.1.2.2.2.1.1 c.1.2.2.2.2.length c.1.2.2.2.1.2,ae a len d]:=b;simp only[cU,gS,gX]at b;rcases b with rfl|rfl|rfl|rfl|rfl|rfl|rfl|rfl|rfl|rfl|rfl|rfl|rfl|rfl|rfl|rfl|rfl|rfl|rfl<;>rfl
theorem dJ{w:ag}{b:Nat}{C:Array ar}{t:TypeId}(a:w.heap[b]?=some (.cells C t (0,0))):w.there b 0 C.size:=λj c=>by
 simp only[World.cell?,World.frozen?,a,cP];simp[c]
theorem eL(b:Nat):(cs:List ar)->(o:Nat)->(w:ag)->bB (λq=>q=b) w (w.setCells b o cs)/\(w.setCells b o cs).heap.size=w.heap.size
 | [],_,w=>⟨bB.refl _ _,rfl⟩
 | v::cs,o,w=>by
  obtain⟨a,c⟩:=eL b cs (o+1) (w.setCell ⟨b,o,none⟩ v);rw[World.setCells];exact⟨(bK w b o v).trans a λ_ _ e=>e,c.trans (by simp[World.setCell])⟩
theorem Bg{n N:Nat}(bf:Nat)(l:List (Cl (n+1)))(b1:au)(L ch M:Nat)(w:ag)(D:Nat->Nat->Bool)(R:Tm (N+1)->List (Tm (N+1))->ag->Prop)(bg:Nat->Nat->au->Nat->Nat->ag->ag->Prop)(cw:L<=1000000)(cx:M<=1000000)(b7:Hid (l.length=L))(b6:Hid (∀(i:Nat)(c:Cl (n+1)),l[i]?=some c->∃b o,b1=some ⟨b,o,none⟩/\b<w.heap.size/\∀(j:Nat)(r:ar),(fq (n+1) c)[j]?=some r->ah w b (o+i*13+j) r))(bt:Hid (∀W,am w W->w.heap.size<W.heap.size->ao 34 #[aH bf] W λe w'=>∃s:Tm (N+1),e=.returned (Qq s)/\Hid (am W w'/\ ∀a7,am w' a7->ao 35 #[aH bf] a7 λe aZ=>∃ma b2 ys,e=.returned (ae ma M b2)/\Hid (ys.length=M/\am a7 aZ/\(∀(i:Nat)(y:Tm (N+1)),ys[i]?=some y->∃g o,ma=some ⟨g,o,none⟩/\g<aZ.heap.size/\∀(j:Nat)(r:ar),(QR y)[j]?=some r->ah aZ g (o+i*4+j) r)/\R s ys aZ))))(b5:Hid (∀s ys w0 W i j y c,R s ys w0->am w0 W->ys[i]?=some y->l[j]?=some c->ao 115 #[QM c,Qq s,Qq y] W λe w'=>∃a len bI,e=.returned (.tuple #[ae a len bI,.bool (D i j)])/\Hid (am W w'/\(D i j=true->bg i j a len bI W w')))):ao 76 #[aH bf,ae b1 L ch] w (Q4 l M L D R bg w):=by
 have bu:Hid (∃w0 k x,(w0=w.alloc x/\k=w.heap.size/\x=.cells #[ab 0,ab 0,ab 0,af ⟨#[]⟩,ae none 0 0,ab 0,ab 0,af ⟨#[]⟩,ae none 0 0,ab 0,ab 0,af ⟨#[]⟩,ae none 0 0,ae none 0 0,ab 0,ab 0,af ⟨#[]⟩,ae none 0 0,ae none 0 0] 164)/\am w w0/\w0.heap[k]?=some x/\w.heap.size<w0.heap.size/\Hid (k=w.heap.size)):=⟨_,_,_,⟨rfl,rfl,rfl⟩,aS _ _,aD _ _,by simp,rfl⟩;go_enter func76,ntmps76;go_wp2_with fail;obtain⟨w0,d,x,⟨bb,bU,ba⟩,bK,bN,bT,br⟩:=bu.out;rw[ba]at bb;rw[<-bb,<-bU];have aU:=aq bK;have a4:=aq bN;have bp:=aq ba;have bm:=aq bT;clear bb bU ba bK bN bT bu;refine(bt _ aU bm).mono ?_;rintro e a0 ⟨s,rfl,X⟩;unfold Qq;have a1:=aq (aU.trans (X.1.mono aU.size));have b8:=aq (aW bm X.1.size);have bo:=aq X.2;have bx:Hid (∃O k,(O=a0.alloc (.cells #[ab s.1.1,ab s.1.2.1,af s.1.2.2,ae s.2.1.1 s.2.2.length s.2.1.2] 31)/\k=a0.heap.size)/\am a0 O/\O.heap[k]?=some (.cells #[ab s.1.1,ab s.1.2.1,af s.1.2.2,ae s.2.1.1 s.2.2.length s.2.1.2] 31)):=⟨_,_,⟨rfl,rfl⟩,aS _ _,aD _ _⟩;have a5:Hid (a0.heap[d]?=some x):=(X.1.block d (aI.1 a4).1).trans a4;clear X bt a4 aU;go_upto_region 2 with fail;obtain⟨O,az,⟨bY,bV⟩,av,bO⟩:=bx.out;rw[<-bY,<-bV];have a2:=aq (a1.trans (av.mono a1.size));have Z:Hid (O.heap[d]?=some x/\O.heap[az]?=some (.cells #[ab s.1.1,ab s.1.2.1,af s.1.2.2,ae s.2.1.1 s.2.2.length s.2.1.2] 31)):=⟨(av.block d (aI.1 a5).1).trans a5,bO⟩;have bn:=aq (bo O av);have b9:=aq (aW b8 av.size);clear bY bV av bO bx bo a5 a1;go_wp2_with fail;refine bn.mono ?_;rintro e U ⟨ma,b2,ys,rfl,E⟩;have Q:=aq (a2.trans (E.2.1.mono a2.size));have ca:=aq (aW b9 E.2.1.size);have S:Hid (U.heap[d]?=some x/\U.heap[az]?=some (.cells #[ab s.1.1,ab s.1.2.1,af s.1.2.2,ae s.2.1.1 s.2.2.length s.2.1.2] 31)):=⟨(E.2.1.block d (aI.1 Z.1).1).trans Z.1,(E.2.1.block az (aI.1 Z.2).1).trans Z.2⟩;have cb:=aq E.1;have bA:=aq E.2.2.1;have bs:=aq E.2.2.2;clear E bn Z a2;go_wp2_with fail;go_loopw [18] (λi wr=>∃bd:Nat,bd<=M/\i=ab bd/\Hid (am U wr/\∀a b,a<bd->b<L->D a b=false)) (λi _=>M-(intOf i).toNat)
 case atStart=>exact⟨0,aM _,rfl,aA _ _,λa b cc=>by omega⟩
 case round=>
  obtain⟨i,cy,rfl,A⟩:=hrel;by_cases ce:i<M;rotate_left
  ·obtain rfl:i=M:=by omega
   have K:Hid (wr.there d 0 19):=by
    have ap:wr.heap[d]?=some x:=(A.1.block d (aI.1 S.1).1).trans S.1;rw[bp.out]at ap;exact dJ ap
   go_upto_region 13 with fail;go_step;go_step;go_step;go_step;have B:Hid (∃wf,wf=wr.setCells d 0 GO.toArray.toList/\Hid (wf.rangeAt d 0 GO/\bB (λk=>k=d) wr wf)):=⟨_,rfl,World.rangeAt_setCells_same wr d 0 GO K,(eL d _ 0 wr).1⟩;refine wpList_store_mid rfl 164 (.tmp 4) (.tmp 44) rfl d 0 GO.toArray rfl rfl K jg FB ?_;obtain⟨wf,ax,B⟩:=B.out;rw[<-ax];clear ax K;go_wp2_with fail;have a9:=run_loadVar_mid (P:=Tryz.prog) wf d 0 164 GO _ B.1 underlying164 rfl jg;refine ay (v:=.tuple #[.agg GO.toArray,.bool false]) (results_cell_tmp results76 rfl a9 rfl) rfl ?_;exact aj ⟨rfl,λa b bJ T=>A.2 a b bJ T,(Q.trans (A.1.mono Q.size)).trans (B.2.below (by have:=Q.size;have:=A.1.size;omega) λb T e=>by have:=br.out;omega)⟩
  ·obtain⟨y,bc⟩:∃y,ys[i]?=some y:=⟨ys[i]'(by rw[cb.out];exact ce),aN _⟩;have bz:=aq bc;obtain⟨g,o,rfl,cd,bi⟩:=bA.out i y bc;have f:∀(j:Nat)(r:ar),(QR y)[j]?=some r->ah wr g (o+i*4+j) r:=λj r bR=>(A.1.cell (p:=⟨g,o+i*4+j,none⟩) cd).trans (bi j r bR);have ci:ah wr g (o+i*4) (ab y.1.1):=f 0 _ rfl;have cj:ah wr g (o+i*4+1) (ab y.1.2.1):=f 1 _ rfl;have ck:ah wr g (o+i*4+2) (af y.1.2.2):=f 2 _ rfl;have cl:ah wr g (o+i*4+3) (ae y.2.1.1 y.2.2.length y.2.1.2):=f 3 _ rfl;have cz:(0:Int)<=(i:Int):=by omega
   have cA:(i:Int)<(M:Int):=by omega
   have bw:Hid (∃V k,(V=wr.alloc (.cells #[ab y.1.1,ab y.1.2.1,af y.1.2.2,ae y.2.1.1 y.2.2.length y.2.1.2] 31)/\k=wr.heap.size)/\am wr V/\V.heap[k]?=some (.cells #[ab y.1.1,ab y.1.2.1,af y.1.2.2,ae y.2.1.1 y.2.2.length y.2.1.2] 31)):=⟨_,_,⟨rfl,rfl⟩,aS _ _,aD _ _⟩;clear f bi bc;go_wp2_with fail;obtain⟨V,aY,⟨bZ,bW⟩,bL,bP⟩:=bw.out;rw[<-bZ,<-bW];have Y:=aq (A.1.trans (bL.mono A.1.size));have bq:=aq bP;have bC:=aq A.2;clear bZ bW bL bP bw ci cj ck cl A bA;go_loopw [25] (λj wr=>∃be:Nat,be<=L/\j=ab be/\Hid (am V wr/\∀b,b<be->D i b=false)) (λj _=>L-(intOf j).toNat)
   case atStart=>exact⟨0,aM _,rfl,aA _ _,λb cc=>by omega⟩
   case round=>
    obtain⟨j,bR,rfl,J⟩:=hrel;by_cases cf:j<L;rotate_left
    ·obtain rfl:j=L:=by omega
     have a3:Hid (am U wr/\∀a b,a<i+1->b<j->D a b=false):=⟨Y.trans (J.1.mono Y.size),λa b bJ T=>by
      by_cases e:a=i
      ·rw[e];exact J.2 b T
      ·exact bC a b (by omega) T⟩
     go_wp2_with fail;go_roundw
     case rel=>exact⟨i+1,by omega,by go_num,a3⟩
     case measure=>simp[intOf];omega
    ·obtain⟨c,a8⟩:∃c,l[j]?=some c:=⟨l[j]'(by rw[b7.out];exact cf),aN _⟩;obtain⟨q,lo,rfl,cg,bj⟩:=b6 j c a8;have bk:=aq a8;have bh:=aq (Q.trans (Y.mono Q.size));have b4:=aq (bh.trans (J.1.mono bh.size));have f:∀(t:Nat)(r:ar),(fq (n+1) c)[t]?=some r->ah wr q (lo+j*13+t) r:=λt r aw=>(b4.cell (p:=⟨q,lo+j*13+t,none⟩) cg).trans (bj t r aw);have y0:ah wr q (lo+j*13) (ab c.1.1.1.1):=f 0 _ rfl;have y1:ah wr q (lo+j*13+1) (ab c.1.1.1.2.1):=f 1 _ rfl;have y2:ah wr q (lo+j*13+2) (af c.1.1.1.2.2):=f 2 _ rfl;have cp:ah wr q (lo+j*13+3) (ae c.1.1.2.1.1 c.1.1.2.2.length c.1.1.2.1.2):=f 3 _ rfl;have cq:ah wr q (lo+j*13+4) (ab c.1.2.1.1.1):=f 4 _ rfl;have cr:ah wr q (lo+j*13+5) (ab c.1.2.1.1.2.1):=f 5 _ rfl;have cs:ah wr q (lo+j*13+6) (af c.1.2.1.1.2.2):=f 6 _ rfl;have ct:ah wr q (lo+j*13+7) (ae c.1.2.1.2.1.1 c.1.2.1.2.2.length c.1.2.1.2.1.2):=f 7 _ rfl;have cu:ah wr q (lo+j*13+8) (ae c.2.1.1 c.2.2.length c.2.1.2):=f 8 _ rfl;have cv:ah wr q (lo+j*13+9) (ab c.1.2.2.1.1):=f 9 _ rfl;have cm:ah wr q (lo+j*13+10) (ab c.1.2.2.1.2.1):=f 10 _ rfl;have cn:ah wr q (lo+j*13+11) (af c.1.2.2.1.2.2):=f 11 _ rfl;have co:ah wr q (lo+j*13+12) (ae c.1.2.2.2.1.1 c.1.2.2.2.2.length c.1.2.2.2.1.2):=f 12 _ rfl;have cB:(0:Int)<=(j:Int):=by omega
     have cC:(j:Int)<(L:Int):=by omega
     have bv:Hid (∃C k,(C=wr.alloc (.cells #[ab c.1.1.1.1,ab c.1.1.1.2.1,af c.1.1.1.2.2,ae c.1.1.2.1.1 c.1.1.2.2.length c.1.1.2.1.2,ab c.1.2.1.1.1,ab c.1.2.1.1.2.1,af c.1.2.1.1.2.2,ae c.1.2.1.2.1.1 c.1.2.1.2.2.length c.1.2.1.2.1.2,ae c.2.1.1 c.2.2.length c.2.1.2,ab c.1.2.2.1.1,ab c.1.2.2.1.2.1,af c.1.2.2.1.2.2,ae c.1.2.2.2.1.1 c.1.2.2.2.2.length c.1.2.2.2.1.2] 162)/\k=wr.heap.size)/\am wr C/\C.heap[k]?=some (.cells #[ab c.1.1.1.1,ab c.1.1.1.2.1,af c.1.1.1.2.2,ae c.1.1.2.1.1 c.1.1.2.2.length c.1.1.2.1.2,ab c.1.2.1.1.1,ab c.1.2.1.1.2.1,af c.1.2.1.1.2.2,ae c.1.2.1.2.1.1 c.1.2.1.2.2.length c.1.2.1.2.1.2,ae c.2.1.1 c.2.2.length c.2.1.2,ab c.1.2.2.1.1,ab c.1.2.2.1.2.1,af c.1.2.2.1.2.2,ae c.1.2.2.2.1.1 c.1.2.2.2.2.length c.1.2.2.2.1.2] 162)):=⟨_,_,⟨rfl,rfl⟩,aS _ _,aD _ _⟩;clear f bj a8;go_upto_region 8 with fail;obtain⟨C,b3,⟨b0,bX⟩,bM,bQ⟩:=bv.out;rw[<-b0,<-bX];have aX:=aq (J.1.trans (bM.mono J.1.size));have aV:=aq (Y.trans (aX.mono Y.size));have m:=aq bQ;have bD:=aq J.2;have u:Hid (C.heap[d]?=some x/\C.heap[az]?=some (.cells #[ab s.1.1,ab s.1.2.1,af s.1.2.2,ae s.2.1.1 s.2.2.length s.2.1.2] 31)/\C.heap[aY]?=some (.cells #[ab y.1.1,ab y.1.2.1,af y.1.2.2,ae y.2.1.1 y.2.2.length y.2.1.2] 31)):=⟨(aV.block d (aI.1 S.1).1).trans S.1,(aV.block az (aI.1 S.2).1).trans S.2,(aX.block aY (aI.1 bq).1).trans bq⟩;clear b0 bX bM bQ bv J y0 y1 y2 cp cq cr cs ct cu cv cm cn co;have aB:=ai m 0;have aC:=ai m 1;have aJ:=ai m 2;have aK:=ai m 3;have aL:=ai m 4;have aO:=ai m 5;have aP:=ai m 6;have aQ:=ai m 7;have aR:=ai m 8;have aT:=ai m 9;have aE:=ai m 10;have aF:=ai m 11;have aG:=ai m 12;have bE:=ai u.2.1 0;have aa:=ai u.2.2 0;have bF:=ai u.2.1 1;have ad:=ai u.2.2 1;have bG:=ai u.2.1 2;have al:=ai u.2.2 2;have bH:=ai u.2.1 3;have an:=ai u.2.2 3;simp only[dc,dt]at aB aC aJ aK aL aO aP aQ aR aT aE aF aG bE bF bG bH aa ad al an;have bl:=aq (b5 s ys U C i j y c bs aV bz bk);go_wp2_with fail;refine bl.mono ?_;rintro e z ⟨F,H,G,rfl,I⟩;clear aB aC aJ aK aL aO aP aQ aR aT aE aF aG bE bF bG bH aa ad al an bl;obtain⟨t,aw⟩:∃t,t=D i j:=⟨_,rfl⟩;rw[<-aw];have a6:=aq aw;clear aw;cases t
     ·have a3:Hid (am V z/\∀b,b<j+1->D i b=false):=⟨aX.trans (I.1.mono aX.size),λb T=>by
        by_cases e:b=j
        ·rw[e];exact a6.symm
        ·exact bD b (by omega)⟩
      clear I;go_wp2_with fail;go_roundw
      case rel=>exact⟨j+1,by omega,by go_num,a3⟩
      case measure=>simp[intOf];omega
     ·have h:Hid (z.heap[d]?=some x/\z.heap[aY]?=some (.cells #[ab y.1.1,ab y.1.2.1,af y.1.2.2,ae y.2.1.1 y.2.2.length y.2.1.2] 31)/\z.heap[b3]?=some (.cells #[ab c.1.1.1.1,ab c.1.1.1.2.1,af c.1.1.1.2.2,ae c.1.1.2.1.1 c.1.1.2.2.length c.1.1.2.1.2,ab c.1.2.1.1.1,ab c.1.2.1.1.2.1,af c.1.2.1.1.2.2,ae c.1.2.1.2.1.1 c.1.2.1.2.2.length c.1.2.1.2.1.2,ae c.2.1.1 c.2.2.length c.2.1.2,ab c.1.2.2.1.1,ab c.1.2.2.1.2.1,af c.1.2.2.1.2.2,ae c.1.2.2.2.1.1 c.1.2.2.2.2.length c.1.2.2.2.1.2] 162)):=⟨(I.1.block d (aI.1 u.1).1).trans u.1,(I.1.block aY (aI.1 u.2.2).1).trans u.2.2,(I.1.block b3 (aI.1 m).1).trans m⟩;have K:Hid (z.there d 0 19):=by
       have ap:=h.1;rw[bp.out]at ap;exact dJ ap
      have aB:=ai h.2.2 0;have aC:=ai h.2.2 1;have aJ:=ai h.2.2 2;have aK:=ai h.2.2 3;have aL:=ai h.2.2 4;have aO:=ai h.2.2 5;have aP:=ai h.2.2 6;have aQ:=ai h.2.2 7;have aR:=ai h.2.2 8;have aT:=ai h.2.2 9;have aE:=ai h.2.2 10;have aF:=ai h.2.2 11;have aG:=ai h.2.2 12;have aa:=ai h.2.1 0;have ad:=ai h.2.1 1;have al:=ai h.2.1 2;have an:=ai h.2.1 3;simp only[dc,dt]at aB aC aJ aK aL aO aP aQ aR aT aE aF aG aa ad al an;go_upto_region 10 with fail
      iterate 16 go_step
      have B:Hid (∃wf,wf=z.setCells d 0 (DG i y c F H G).toArray.toList/\Hid (wf.rangeAt d 0 (DG i y c F H G)/\bB (λk=>k=d) z wf)):=⟨_,rfl,World.rangeAt_setCells_same z d 0 (DG i y c F H G) K,(eL d _ 0 z).1⟩;refine wpList_store_mid rfl 164 (.tmp 4) (.tmp 41) rfl d 0 (DG i y c F H G).toArray rfl rfl K jg (FC i y c F H G) ?_;obtain⟨wf,ax,B⟩:=B.out;rw[<-ax];have a9:=aq (run_loadVar_mid (P:=Tryz.prog) wf d 0 164 (DG i y c F H G) _ B.1 underlying164 rfl jg);clear ax K aB aC aJ aK aL aO aP aQ aR aT aE aF aG aa ad al an;go_wp2_with fail;refine ay (v:=.tuple #[.agg (DG i y c F H G).toArray,.bool true]) (results_cell_tmp results76 rfl a9 rfl) rfl ?_;refine ak ⟨i,j,y,c,F,H,G,rfl,s,ys,U,C,z,bs,bz,bk,a6.symm,bC,bD,Q,aV,I.1,I.2 a6.symm,?_,ca⟩;have bS:=B.2;rw[br.out]at bS;exact bS
theorem sQ{n:Nat}(s m:Tc):(l:List (Cl (n+1)))->(∀c∈l,lT c s m=none)->mO s m l=none
 | [],_=>rfl
 | c::l,h=>by
  simp only[mO,h c (by simp)];exact sQ s m l λc a=>h c (bT _ a)
theorem xO{n:Nat}(s m:Tc):(l:List (Cl (n+1)))->(j:Nat)->(c:Cl (n+1))->(B:List Tc)->l[j]?=some c->lT c s m=some B->(∀d b,d<j->l[d]?=some b->lT b s m=none)->mO s m l=some (c,B)
 | [],j,c,B,h,_,_=>by simp at h
 | a::l,0,c,B,h,hB,_=>by
  simp only[dc,gU]at h;subst h;simp only[mO,hB]
 | a::l,j+1,c,B,h,hB,hn=>by
  simp only[mO,hn 0 a (by omega) rfl];exact xO s m l j c B (by simpa using h) hB λd b f e=>hn (d+1) b (by omega) (by simpa using e)
theorem Bi{n:Nat}(l:List (Cl (n+1)))(s:Tc):(ms:List Tc)->(k:Nat)->(∀m∈ms,mO s m l=none)->sP l s ms k=none
 | [],_,_=>rfl
 | m::ms,k,h=>by
  simp only[sP,h m (by simp)];exact Bi l s ms (k+1) λm a=>h m (bT _ a)
theorem Bj{n:Nat}(l:List (Cl (n+1)))(s:Tc):(ms:List Tc)->(k i:Nat)->(m:Tc)->(x:Cl (n+1)×List Tc)->ms[i]?=some m->mO s m l=some x->(∀b c,b<i->ms[b]?=some c->mO s c l=none)->sP l s ms k=some (k+i,x)
 | [],k,i,m,x,h,_,_=>by simp at h
 | a::ms,k,0,m,x,h,hx,_=>by
  simp only[dc,gU]at h;subst h;simp only[sP,hx,iT]
 | a::ms,k,i+1,m,x,h,hx,hn=>by
  simp only[sP,hn 0 a (by omega) rfl];rw[Bj l s ms (k+1) i m x (by simpa using h) hx λb c e d=>hn (b+1) c (by omega) (by simpa using d)];congr 2;omega
def Q2{n:Nat}(l:List (Cl (n+1)))(s:Tc)(ms:List Tc)(w:ag)(e:Ending)(w':ag):Prop:=
 (sP l s ms 0=none/\e=.returned (.tuple #[.agg GO.toArray,.bool false])/\Hid (am w w'))\/
  ∃(d:Nat)(a:Tc)(c:Cl (n+1))(b g:Nat),e=.returned (.tuple #[.agg (DG d a c (some ⟨b,0,none⟩) 4 g).toArray,.bool true])/\Hid (∃f i j,sP l s ms 0=some (d,c,f)/\c∈l/\ms[d]?=some (cn 13 a)/\bG 13 a=0/\am w w'/\In w'.heap.size w' 13 a/\cv (λh=>w.heap.size<h/\h≠b) 13 a/\rj (i+1) j f (w.heap.size+1) w' b g)
theorem rj.kept{D:Nat}{l:List (Tm D)}{B:List Tc}{e:Nat}{w w':ag}{c g q:Nat}(a:rj D l B e w c g)(d:bB (λb=>b=q) w w')(v:q<e):rj D l B e w' c g:=by
 obtain⟨k,f⟩:=a.new;have i:¬c=q:=by omega
 refine⟨a.bnd,a.tells,a.cap,⟨k,aW f d.size⟩,λo t n=>?_,λp=>?_⟩
 ·obtain⟨r,s,j⟩:=a.at' o t n;exact⟨r.kee d f i,s.kee d (j.mono λx m u=>by have:=m.1;omega),j⟩
 ·have h:=a.free p;unfold World.frozen? at h ⊢;rw[d.block c f i];exact h
theorem rj.mono{D:Nat}{l:List (Tm D)}{B:List Tc}{e f:Nat}{w:ag}{h g:Nat}(a:rj D l B e w h g)(j:f<=e):rj D l B f w h g:=
 ⟨a.bnd,a.tells,a.cap,⟨by have:=a.new.1;omega,a.new.2⟩,λc d b=>⟨(a.at' c d b).1,(a.at' c d b).2.1,(a.at' c d b).2.2.mono λk i=>⟨by omega,i.2⟩⟩,a.free⟩
theorem DI{n bI ax:Nat}{name:ap}{room:Int}{s:Tc}{ms:List Tc}{a4:Nat}{M:aO}{w:ag}{ws:List Wd}{nm:List ap}{bL:Wd}{vs:List Wd}{ma:au}{bE:Nat}{Mh:aO}(an:cR bI ax name room 13 s ms [] a4 M w ws nm bL vs ma bE Mh)(l:List (Cl (n+1)))(aw:au)(a1 B:Nat)(aS:qv B w 13 (fq (n+1)) (iz (n+1) B w) aw l)(aI:B<=w.heap.size)(bw:∀c∈l,qt c)(aW:a4<=50000)(bg:ms.length<=1000)(bs:l.length<=1000000):ao 76 #[aH ax,ae aw l.length a1] w (Q2 l (cn 13 s) (ms.map (cn 13)) w):=by
 have aQ:=an.front;have a0:=aQ.2.2.1 s (by simp);have aV:∀m∈ms,bG 13 m=0/\aT 13 m=true:=λm ah=>aQ.2.2.1 m (bT _ ah)
 refine(Bg (N:=12) ax l aw l.length a1 ms.length w (λa j=>match l[j]?,ms[a]? with
     | some c,some m=>(lT c (cn 13 s) (cn 13 m)).isSome
     | _,_=>false)
  (λF G u=>aB 13 F 13 s=true/\In u.heap.size u 13 F/\aG (λp b=>aB 13 p 13 b) G ms=true/\am w u/\∀e∈G,In u.heap.size u 13 e/\cv (λU=>w.heap.size<U) 13 e)
  (λa j p len I r bc=>∃c m h q E v,l[j]?=some c/\ms[a]?=some m/\lT c (cn 13 s) (cn 13 m)=some h/\p=some ⟨v,0,none⟩/\len=4/\rj (q+1) E h r.heap.size bc v I) bs (by omega) rfl ?_ ?_ ?_).mono ?_
 ·intro a c z;rcases aS with g|⟨b,o,g,aK,d⟩
  ·rw[g]at z;simp at z
  ·exact⟨b,o,g,by omega,(d a c z).1⟩
 ·intro r i bt;refine((an.later (N:=12) i).state (N:=12) aW).mono ?_;rintro g bY ⟨e,rfl,ba⟩;obtain⟨y1,y2,a8,bO⟩:=ba;refine⟨e,rfl,y1,λaC L=>?_⟩;have y:=i.trans (y1.mono i.size);have t:=y.trans (L.mono y.size);refine((an.later (N:=12) t).mails (N:=12) aW bg).mono ?_;rintro g bN ⟨G,bb,p,c,rfl,a9⟩;obtain⟨a2,T,a3⟩:=a9;have bh:bb=ms.length:=by rw[<-a2];exact cT _ _ _ a3
  subst bh;have O:am aC bN:=T.1;have bW:=i.size;have aX:=y1.size;have aZ:=L.size;obtain⟨bR,Y,J,aD,Z,_⟩:=fy.lay (eA 13) (f:=iL 13) (λ_=>rfl) T;injection J with J bS bU;subst J;refine⟨p,c,G,rfl,a2,O,λa X C=>?_,bO,((y2.below L).mono L.size |>.below O).mono O.size,a3,t.trans (O.mono t.size),λX C=>⟨(T.2.2 X C).1,(T.2.2 X C).2.mono λU S=>?_⟩⟩
  ·rcases Z with Z|⟨bf,o,be,P,d⟩
   ·rw[Z]at C;simp at C
   ·exact⟨bf,o,be,P,(d a X C).1⟩
  ·rcases S.1 with bQ|bQ
   ·omega
   ·omega
 ·rintro F G u r a j e c ⟨V,a7,W,ay,aA⟩ i A d;have bz:=aL A;have br:a<ms.length:=by
   have:=(aY.1 A).1;rw[cT _ _ _ W]at this;exact this
  have al:ms[a]?=some ms[a]:=aN br;have D:=jQ _ _ _ W a e ms[a] A al;have R:=aV ms[a] (io _);have bn:=aL d;obtain⟨bF,bH,_⟩:=bw c bn;have bl:iz (n+1) B w c:=by
   rcases aS with g|⟨b,o,g,aK,bk⟩
   ·rw[g]at d;simp at d
   ·exact(bk j c d).2
  have aP:=ay.trans (i.mono ay.size);have bj:iz (n+1) r.heap.size r c:=(eK (n+1)).mono (aF aI aP.size) ((eK (n+1)).below (aP.mono aI) bl);have bp:=ID c (n:=n) (m:=12) (k:=12) F e r.heap.size r bj ((a7.below i).mono i.size) (((aA e bz).1.below i).mono i.size) (av _) bF bH ((bZ V).trans a0.1) ((cO _ _ _ _ V).trans a0.2) ((bZ D).trans R.1) ((cO _ _ _ _ D).trans R.2);refine bp.mono ?_;rintro g bM ⟨p,len,I,bK,rfl,H⟩;obtain⟨aa,x,aE⟩:=H.out;have J:cn (12+1) F=cn 13 s:=iF V;have aD:cn (12+1) e=cn 13 ms[a]:=iF D;rw[J,aD]at x aE
  have ab:(match l[j]?,ms[a]? with
   | some c,some m=>(lT c (cn 13 s) (cn 13 m)).isSome
   | _,_=>false)=bK:=by
   rw[d,al];exact x.symm
  refine⟨p,len,I,by rw[ab],aa,λP=>?_⟩;rw[ab]at P;rw[P]at x;obtain⟨h,aJ⟩:=gm.1 x.symm;obtain⟨bB,q,E,v,bC,ar⟩:=aE h aJ;cases q with
  | zero=>
   have bV:=(iE ar.bnd).1;exact((ar.at' 0 (E[0]'(by omega)) (aN _)).2.1).elim
  | succ q=>exact⟨c,ms[a],h,q,E,v,d,al,aJ,bC,bB,ar⟩
 ·rintro g bM (⟨rfl,H⟩|⟨a,j,e,c,p,len,I,rfl,H⟩)
  ·obtain⟨aa,x⟩:=H.out;refine aj ⟨Bi l _ _ 0 λm ah=>sQ _ _ l λc d=>?_,rfl,x⟩;obtain⟨bD,ai,rfl⟩:=cm.1 ah;obtain⟨a,z,rfl⟩:=List.mem_iff_getElem.1 ai;obtain⟨j,aR,rfl⟩:=List.mem_iff_getElem.1 d;have:=aa a j z aR;simp only[aN z,aN aR]at this;exact lk.1 (by rw[<-lm,this];rfl)
  ·obtain⟨F,G,u,aC,bd,⟨V,a7,W,ay,aA⟩,A,d,ab,bu,bv,aM,y,t,⟨Y,m,h,q,E,v,a5,K,bJ,rfl,rfl,a6⟩,af,bt⟩:=H;rw[d]at a5;obtain rfl:=az a5;have D:=jQ _ _ _ W a e m A K;have R:=aV m (aL K);have bo:cn 13 e=cn 13 m:=iF D;have bx:=aM.size;have aX:=y.size;have aZ:=t.size;obtain⟨y1,y2⟩:=aA e (aL A);have bP:=In.offB y2 y1;have bi:am w bd:=(aM.trans (y.mono bx)).trans (t.mono (by omega));refine ak ⟨a,e,c,v,I,rfl,h,q,E,?_,aL d,?_,(bZ D).trans R.1,bi.trans (af.below (by omega) λb aK g=>by omega),?_,bP.mono λU S=>⟨S.1,λg=>?_⟩,(a6.kept af (by omega)).mono (by omega)⟩
   ·have bm:mO (cn 13 s) (cn 13 m) l=some (c,h):=xO _ _ l j c h d bJ λaq Y Q ad=>by
      have:=bv aq Q;simp only[ad,K]at this;exact lk.1 (by rw[<-lm,this];rfl)
    have:=Bj l (cn 13 s) (ms.map (cn 13)) 0 a (cn 13 m) (c,h) (by rw[dh,K];rfl) bm λbA bX bq aU=>by
     rw[dh]at aU;obtain⟨bD,ai,rfl⟩:=cD.1 aU;refine sQ _ _ l λY ad=>?_;obtain⟨aq,Q,rfl⟩:=List.mem_iff_getElem.1 ad;have:=bu bA aq bq Q;simp only[aN Q,ai]at this;exact lk.1 (by rw[<-lm,this];rfl)
    rw[this,cP]
   ·rw[dh,K,bo];rfl
   ·have a8:=((y1.below y).mono aX |>.below t).mono aZ;exact a8.kee af (y2.mono λU S g=>by omega)
   ·have:=a6.new.1;omega
def tZ:List ar:=[ab 0,ab 0]
theorem wG(w:ag)(ty:TypeId)(g o c:Nat)(a:Array ar)(e:w.heap[g]?=some (.cells a 109 (0,0)))(d:o+2<=a.size):(Builtin.clear_ #[100] ty #[ae (some ⟨g,o,none⟩) 1 c]).run Tryz.prog w=.ok (.tuple #[]) (w.setRow g (a.toList.take o++tZ++a.toList.drop (o+2)).toArray):=by
 have b:=pT Tryz.prog g o 109 tZ 0 a w e (by simpa [tZ]using d) (by simp[tZ,Value.oneCell']);have h:(Builtin.zeroCells (Value.agg #[ab 0,ab 0]).cells 1).toList=tZ:=by
  simp[Builtin.zeroCells,Value.cells,tZ];rfl
 simp only[iT]at b;have f:tZ.length=2:=rfl;rw[f]at b;simp[Builtin.clear_,cu underlying100,h,b]
theorem Jy(w:ag)(g a L c i:Nat)(f:L<=c)(h:i+1<=L):(Instr.slice 100 (ae (some ⟨g,a,none⟩) L c) (some (ab i)) (some (ab ((i:Int)+1))) (some (ab L))).run Tryz.prog w=.ok (ae (some ⟨g,a+i*2,none⟩) 1 (L-i)) w:=by
 have b:(i:Int)+1<=(L:Int):=by omega
 have d:¬L=i:=by omega
 have e:(0:Int)<=(i:Int)+1:=by omega
 simp[Instr.slice,cu underlying100,Instr.sliceBounds,Instr.sliceBound,asIntOf,b,d,e,f,go_sem,eP]
theorem AT(w:ag)(g a L c i:Nat)(d:i<=c):(Instr.slice 100 (ae (some ⟨g,a,none⟩) L c) none (some (ab i)) none).run Tryz.prog w=.ok (ae (some ⟨g,a,none⟩) i c) w:=by
 have b:¬c<i:=by omega
 simp[Instr.slice,cu underlying100,Instr.sliceBounds,Instr.sliceBound,asIntOf,b,go_sem]
theorem Dn(w:ag)(g a L c i:Nat)(h:i+1<=L):(Instr.slice 100 (ae (some ⟨g,a,none⟩) L c) (some (ab ((i:Int)+1))) none none).run Tryz.prog w=.ok (.slice (some (if c=i+1 then ⟨g,a,none⟩else ⟨g,a+(i+1)*2,none⟩)) (L-(i+1)) (c-(i+1))) w:=by
 have b:(i:Int)+1<=(L:Int):=by omega
 have e:(0:Int)<=(i:Int)+1:=by omega
 have f:((i:Int)+1).toNat=i+1:=by omega
 by_cases d:c=i+1
 ·simp[Instr.slice,cu underlying100,Instr.sliceBounds,Instr.sliceBound,asIntOf,b,d,e,f,go_sem,eP]
 ·simp[Instr.slice,cu underlying100,Instr.sliceBounds,Instr.sliceBound,asIntOf,b,d,e,f,go_sem,eP]
theorem Dm(w:ag)(g a m c:Nat)(f:m+1<=c):(Instr.slice 100 (ae (some ⟨g,a,none⟩) m c) (some (ab m)) (some (ab ((m:Int)+1))) none).run Tryz.prog w=.ok (ae (some ⟨g,a+m*2,none⟩) 1 (c-m)) w:=by
 have b:¬c=m:=by omega
 have d:(m:Int)+1<=(c:Int):=by omega
 have e:(0:Int)<=(m:Int)+1:=by omega
 simp[Instr.slice,cu underlying100,Instr.sliceBounds,Instr.sliceBound,asIntOf,b,d,e,go_sem,eP]
theorem xB{w w':ag}{v x' c:ar}{b:Array Oper}{o:Oper}{a:Act}{K:Act->ag->Prop}{Q:Exit->Act->ag->Prop}{E:Prop}(e:o.guard=none)(s x:Operand)(f:o.op=.call {callee:=.builtin .append,args:= #[s,x],argTypes:= #[100,100]})(h:a.eval s=v)(j:a.eval x=x')(g:(Builtin.append_ #[100,100] o.type #[v,x']).run Tryz.prog w=.ok c w')(d:K (a.put o.dst c) w'):if Region.wanted o (yielded b a.tmps)=true then Oper.wp Tryz.prog o a w K Q else E:=by
 have i:Region.wanted o (yielded b a.tmps)=true:=by simp[Region.wanted,e]
 rw[if_pos i];unfold Oper.wp execOp;simp only[f,resolve,invoke,builtin,Sem.run_bind,Sem.run_pure,nC,nu,aV,cC,h,j,g];exact d
theorem Bt(g b a i L:Nat)(w:ag)(d:Addr)(c f:List ar)(_hL:L<=a)(_hi:i+1<=L)(_hm:L<=1000000)(k:Hid (∀W,(Instr.slice 100 (ae (some ⟨g,b,none⟩) L a) (some (ab i)) (some (ab ((i:Int)+1))) (some (ab L))).run Tryz.prog W=.ok (ae (some ⟨g,b+i*2,none⟩) 1 (L-i)) W))(l:Hid (∀W,(Instr.slice 100 (ae (some ⟨g,b,none⟩) L a) none (some (ab i)) none).run Tryz.prog W=.ok (ae (some ⟨g,b,none⟩) i a) W))(m:Hid (∀W,(Instr.slice 100 (ae (some ⟨g,b,none⟩) L a) (some (ab ((i:Int)+1))) none none).run Tryz.prog W=.ok (ae (some d) (L-(i+1)) (a-(i+1))) W))(h:Hid (∀ty,(Builtin.append_ #[100,100] ty #[ae (some ⟨g,b,none⟩) i a,ae (some d) (L-(i+1)) (a-(i+1))]).run Tryz.prog w.drew=.ok (ae (some ⟨g,b,none⟩) (L-1:Nat) a) (w.drew.setRow g c.toArray)))(n:Hid (∀W,(Instr.slice 100 (ae (some ⟨g,b,none⟩) (L-1:Nat) a) (some (ab (L-1:Nat))) (some (ab L)) none).run Tryz.prog W=.ok (ae (some ⟨g,b+(L-1)*2,none⟩) 1 (a-(L-1))) W))(j:Hid (∀ty,(Builtin.clear_ #[100] ty #[ae (some ⟨g,b+(L-1)*2,none⟩) 1 (a-(L-1))]).run Tryz.prog (w.drew.setRow g c.toArray)=.ok (.tuple #[]) ((w.drew.setRow g c.toArray).setRow g f.toArray))):ao 78 #[ae (some ⟨g,b,none⟩) L a,ab i,ab ((i:Int)+1)] w λe w'=>e=.returned (ae (some ⟨g,b,none⟩) (L-1:Nat) a)/\w'=(w.drew.setRow g c.toArray).setRow g f.toArray:=by
 have u:=k.out;have v:=l.out;have x:=m.out;have s:=n.out;have r:=j.out;have o:=h.out 100;clear k l m n j h;have t:¬(i:Int)=(i:Int)+1:=by omega
 obtain⟨q,p⟩:∃q:Nat,q=L-1:=⟨_,rfl⟩;rw[<-p]at s o r ⊢;clear p;go_enter func78,ntmps78;go_wp2_with fail;go_region_held3 (λ_=>True) (trivial) ((first|(refine xB rfl _ _ rfl (by simp[Act.eval]) (by simp[Act.eval]) o ?_)));go_wp2_with fail
 go_ret
 exact⟨rfl,rfl⟩
theorem zK(g a d i:Nat)(vs:List Wd)(c:Array ar)(w:ag)(R:i<vs.length)(u:w.heap[g]?=some (.cells c 109 (0,0)))(B:vs.length<=d)(M:vs.length<=1000000)(S:a+d*2<=c.size)(D:(c.toList.drop a).take (vs.length*2)=bm vs):ao 78 #[ae (some ⟨g,a,none⟩) vs.length d,ab i,ab ((i:Int)+1)] w λe w'=>e=.returned (ae (some ⟨g,a,none⟩) (vs.length-1:Nat) d)/\Hid (bB (λb=>b=g) w w'/\w'.heap.size=w.heap.size/\∃p,w'.heap[g]?=some (.cells p 109 (0,0))/\p.size=c.size/\(p.toList.drop a).take ((vs.length-1)*2)=bm (vs.eraseIdx i)):=by
 obtain⟨Q,K,T,x,U⟩:=bU lJ;have v:c.toList.length=c.size:=iM;obtain⟨k,n⟩:∃k,k=bm (vs.drop (i+1)):=⟨_,rfl⟩;have t:k.length=(vs.length-(i+1))*2:=by rw[n,cM,fo]
 have H:∀f l,k[f]?=some l->c.toList[a+(i+1)*2+f]?=some l:=λf l m=>by
  have L:=(aY.1 m).1;have y:(bm vs)[(i+1)*2+f]?=some l:=by
   rw[<-m,n];have:=tW vs (i+1) (vs.length-(i+1)) f (by omega);rw[bA (by simp)]at this;exact this.symm
  rw[<-D,jB,if_pos (by omega),lf]at y;rw[show a+(i+1)*2+f=a+((i+1)*2+f) by omega];exact y
 have N:∀h:ag,h.heap[g]?=some (.cells c 109 (0,0))->∀f l,k[f]?=some l->h.cell? ((if d=i+1 then (⟨g,a,none⟩:Addr)else ⟨g,a+(i+1)*2,none⟩).add f)=some l:=λh I f l m=>by
  have L:=(aY.1 m).1;by_cases G:d=i+1
  ·omega
  ·rw[if_neg G,eP,ai I];exact H f l m
 have o:=λty:TypeId=>oN (P:=Tryz.prog) w.drew 100 ty 109 Q underlying100 K g a i d c u (if d=i+1 then (⟨g,a,none⟩:Addr)else ⟨g,a+(i+1)*2,none⟩) (vs.length-(i+1)) (d-(i+1)) k (by rw[t,x]) (N w.drew u) (by rw[n];exact qY _) (by omega) (by rw[x,t];omega);simp only[x]at o;rw[show i+(vs.length-(i+1))=vs.length-1 by omega]at o;obtain⟨j,r⟩:∃j,j=c.toList.take (a+i*2)++k++c.toList.drop (a+i*2+k.length):=⟨_,rfl⟩;rw[<-r]at o;have s:j.length=c.size:=by
  rw[r];simp only[bt,dF,fo,v];omega
 have A:(w.drew.setRow g j.toArray).heap[g]?=some (.cells j.toArray 109 (0,0)):=setRow_heap w.drew g c _ _ _ u;have J:=λty:TypeId=>wG (w.drew.setRow g j.toArray) ty g (a+(vs.length-1)*2) (d-(vs.length-1)) j.toArray A (by simp only[eh,s];omega);have z:=λh=>Dm h g a (vs.length-1) d (by omega);rw[show (((vs.length-1:Nat):Int)+1)=(vs.length:Int) by omega]at z;refine(Bt g a d i vs.length w _ j _ B (by omega) M (λh=>Jy h g a vs.length d i B (by omega)) (λh=>AT h g a vs.length d i (by omega)) (λh=>Dn h g a vs.length d i (by omega)) o z J).mono ?_;rintro e w' ⟨rfl,rfl⟩;refine⟨rfl,⟨rfl,rfl,rfl,by simp,λb _ C=>(setRow_other _ _ _ _ C).trans (setRow_other _ _ _ _ C)⟩,by simp,_,setRow_heap _ _ _ _ _ _ A,?_,?_⟩
 ·have O:tZ.length=2:=rfl;simp only[eh,bt,dF,fo,s,O];omega
 ·have q:(j.take (a+(vs.length-1)*2)).length=a+(vs.length-1)*2:=by rw[dF,s];omega
  rw[kX,ns (by rw[q];omega),iR (by rw[fo,q];omega),bA (by rw[fo,q];omega)];have E:j.take (a+(vs.length-1)*2)=c.toList.take (a+i*2)++k:=by
   rw[r];exact List.take_left' (by rw[bt,dF,t,v];omega)
  rw[E,ns (by rw[dF,v];omega),List.drop_take];have F:(c.toList.drop a).take (i*2)=bm (vs.take i):=by
   have:=congrArg (List.take (i*2)) D;rw[List.take_take,Nat.min_eq_left (by omega)]at this;rw[this]
   conv=>lhs;rw[<-iu i vs,qn]
   exact List.take_left' (by rw[cM,dF];omega)
  rw[show a+i*2-a=i*2 by omega,F,n,<-qn,tu]
end Go.Proofs.YtmmahddlcldmiaaGreat
