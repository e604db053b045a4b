/- Proved here: plain facts and contracts. No condition but what each names. -/
import Derived.Test.YtmmahddlcldmiaaGreatR10
namespace Go.Proofs.YtmmahddlcldmiaaGreat
open Go.RowKit
set_option maxRecDepth 100000
set_option maxHeartbeats 4000000
def Qt(n:Nat)(l:List (Bh (n+1)))(room:Int){m:Nat}(xs:List (Hn m))(s:Sy)(j:Nat):Sy:=(xs.take j).foldl (λs c=>(s.do n l room c.1.1 c.1.2.1 c.1.2.2 (m+1) c.2).1) s
theorem LN(n:Nat)(l:List (Bh (n+1)))(room:Int){m:Nat}{xs:List (Hn m)}(s:Sy){j:Nat}{c:Hn m}(a:xs[j]?=some c):Qt n l room xs s (j+1)=((Qt n l room xs s j).do n l room c.1.1 c.1.2.1 c.1.2.2 (m+1) c.2).1:=by
 unfold Qt;rw[dF,a,Option.toList_some,jF];rfl
theorem FL:(l:List (Int×Int×Int×Tc))->∀{s:Sy},DN s l=true->∀{j:Nat}{e:Int×Int×Int×Tc},l[j]?=some e->(Kf (zN s (l.take j)) e).2=0
 | [],_,_,_,_,h=>by simp at h
 | a::l,s,h,0,e,he=>by
  obtain rfl:a=e:=by simpa using he
  simp only[DN,aK,cv]at h;exact h.1
 | a::l,s,h,j+1,e,he=>by
  simp only[DN,aK]at h;exact FL l h.2 (by simpa using he)
theorem Kg(s:Sy){l:List (Int×Int×Int×Tc)}{j:Nat}{e:Int×Int×Int×Tc}(a:l[j]?=some e):zN s (l.take (j+1))=(Kf (zN s (l.take j)) e).1:=by
 rw[dF,a];simp[zN]
theorem Da{w0:ag}{V:aO}{a:ag}{s:Sy}{i h:Nat}{W:ag}(v:Du w0 V a s i h W)(l:List (Int×Int×Int×Tc))(C:DN s l=true)(N:i+l.length<=100)(g c:Nat)(t:V g)(k:Nat->Nat)(x:(j:Nat)->Tm (k j+1))(E:∀j e,l[j]?=some e->(In a.heap.size a (k j+1) (x j)/\cD V (k j+1) (x j))/\(aC (k j+1) (x j)).length<=2097152/\(aB (k j+1) (x j) 13 e.2.2.2=true\/e.1≠3)/\I2 (e.2.1,e.2.2.1))(B:∀j e,l[j]?=some e->a.cell? ⟨g,j*7,none⟩=some (ab e.1)/\a.cell? ⟨g,j*7+1,none⟩=some (ab e.2.1)/\a.cell? ⟨g,j*7+2,none⟩=some (ab e.2.2.1)/\a.cell? ⟨g,j*7+3,none⟩=some (ab (x j).1.1)/\a.cell? ⟨g,j*7+4,none⟩=some (ab (x j).1.2.1)/\a.cell? ⟨g,j*7+5,none⟩=some (af (x j).1.2.2)/\a.cell? ⟨g,j*7+6,none⟩=some (.slice (x j).2.1.1 (x j).2.2.length (x j).2.1.2)):ao 21 #[aH h,ae (some ⟨g,0,none⟩) l.length c] W λe w'=>e=.returned (.bool true)/\Hid (Du w0 V a (zN s l) (i+l.length) h w'):=by
 obtain⟨f,z⟩:∃f:Nat->Int×Int×Int×Tc,∀j,j<l.length->l[j]?=some (f j):=⟨λj=>l.getD j (0,0,0,sH),λj p=>by
  simp only[nz,aN p]
  rfl⟩
 have D:zN s (l.take l.length)=zN s l:=by rw[List.take_length]
 have:=Jf h g l.length c (λj=>(f j).1) (λj=>(f j).2.1) (λj=>(f j).2.2.1) (λj=>(x j).1.1) (λj=>(x j).1.2.1) (λj=>(x j).1.2.2) (λj=>(x j).2.1.1) (λj=>(x j).2.2.length) (λj=>(x j).2.1.2) W (λj n=>Du w0 V a (zN s (l.take j)) (i+j) h n) (by omega) v (λj n p r=>?_)
 ·rw[<-D];exact this
 ·have m:=z j p;obtain⟨G,H,I,J⟩:=E j _ m;have b:=B j _ m;have d:∀{o:Nat}{q:au},a.cell? ⟨g,o,none⟩=some q->n.cell? ⟨g,o,none⟩=some q:=λ{o q} F=>by
   obtain⟨O,M,_,_,_,_,_,w,y⟩:=r;rw[y.cell o (w g t).1 λK=>K t];exact F
  refine⟨⟨d b.1,d b.2.1,d b.2.2.1,d b.2.2.2.1,d b.2.2.2.2.1,d b.2.2.2.2.2.1,d b.2.2.2.2.2.2⟩,λL A=>?_⟩;refine(N1 (r.later A) (by omega) (f j) J (x j) G H I).mono ?_;rintro e w' ⟨rfl,u⟩;rw[FL l C m];refine⟨rfl,?_⟩;rw[Kg s m];exact u
theorem Qg(a:Nat)(W:ag):(binOp .eql 27 (aH a) (.pointer none)).run Tryz.prog W=.ok (.bool false) W:=by kernel_rfl
def JA(r:Nat)(W:ag):Prop:=W.heap[r]?=some (.cells #[ab 1,ab 1,ab 0,ab 0,ab 0,af ⟨#[]⟩,ae none 0 0] 33)
theorem pD{r:Nat}{w W:ag}(b:JA r w)(c:am w W):ai W r 0 (Value.int .i64 1)/\ai W r 1 (Value.int .i64 1)/\ai W r 2 (Value.int .i64 0)/\ai W r 3 (Value.int .i64 0)/\ai W r 4 (Value.int .i64 0)/\ai W r 5 (Value.string ⟨#[]⟩)/\ai W r 6 (Value.slice none 0 0):=by
 have a:W.heap[r]?=some (.cells #[ab 1,ab 1,ab 0,ab 0,ab 0,af ⟨#[]⟩,ae none 0 0] 33):=(c.block r (aI.1 b).1).trans b;exact⟨ah a 0,ah a 1,ah a 2,ah a 3,ah a 4,ah a 5,ah a 6⟩
theorem IU(w:ag)(M:ar->Nat->Nat->bt)(aN aO:Nat->bt)(L:Nat->Nat->bt)(aP:Nat->bt)(aQ:ar->Nat->bt)(aR aT aU:Nat->Int->Int->aq->ar->Nat->Nat->bt)(aw:Hid (ao 19 #[] w λe w'=>∃a l c,e=.returned (ae a l c)/\Hid (M a l c w')))(ax:Hid (∀a l c W,M a l c W->ao 18 #[ae a l c,ab 60] W λe w'=>∃b,e=.returned (.tuple #[aH b,ab 0])/\Hid (aN b w')))(A:Hid (∀b W,aN b W->ao 20 #[aH b,af ⟨#[99,111,117,110,116]⟩,.agg #[ab 1,ab 2,af ⟨#[]⟩,ae none 0 0]] W λe w'=>e=.returned (.tuple #[ab 1,ab 0])/\Hid (aO b w')))(aJ:Hid (∀W,ao 22 #[ab 1,af ⟨#[40,117,112,32,51,41]⟩] W λe w'=>∃y0 y1 y2 ya yl yc,e=.returned (.agg #[ab 3,ab 1,ab 0,ab y0,ab y1,af y2,ae ya yl yc])/\Hid (aR W.heap.size y0 y1 y2 ya yl yc w'/\am W w')))(aK:Hid (∀W,ao 22 #[ab 1,af ⟨#[102,111,114,107]⟩] W λe w'=>∃y0 y1 y2 ya yl yc,e=.returned (.agg #[ab 3,ab 1,ab 0,ab y0,ab y1,af y2,ae ya yl yc])/\Hid (aT W.heap.size y0 y1 y2 ya yl yc w'/\am W w')))(aL:Hid (∀W,ao 22 #[ab 1,af ⟨#[98,97,100]⟩] W λe w'=>∃y0 y1 y2 ya yl yc,e=.returned (.agg #[ab 3,ab 1,ab 0,ab y0,ab y1,af y2,ae ya yl yc])/\Hid (aU W.heap.size y0 y1 y2 ya yl yc w'/\am W w')))(aC:Hid (∀b r g aj B2 p h s R y0 y1 y2 ya yl yc V X Y Z ad aa,aO b p->(am p h/\p.heap.size=r/\JA r h)->(r<aj/\r<B2)->aR aj y0 y1 y2 ya yl yc h->am h s->aT B2 V X Y Z ad aa s->am s R->(s.heap.size<=g/\R.heap[g]?=some (.cells #[ab 3,ab 1,ab 0,ab y0,ab y1,af y2,ae ya yl yc,ab 1,ab 1,ab 0,ab 0,ab 0,af ⟨#[]⟩,ae none 0 0,ab 3,ab 1,ab 0,ab V,ab X,af Y,ae Z ad aa,ab 1,ab 1,ab 0,ab 0,ab 0,af ⟨#[]⟩,ae none 0 0,ab 2,ab 1,ab 2,ab 0,ab 0,af ⟨#[]⟩,ae none 0 0,ab 1,ab 2,ab 0,ab 0,ab 0,af ⟨#[]⟩,ae none 0 0] 33))->ao 21 #[aH b,ae (some ⟨g,0,none⟩) 6 6] R λe w'=>e=.returned (.bool true)/\Hid (L b r w'/\JA r w')))(az:Hid (∀b r W,L b r W->ao 15 #[aH b,ab 2] W λe w'=>∃nm U sa sl sc ma a1 a0,e=.returned (.tuple #[af nm,.agg #[ab 1,ab 7,af U,ae sa sl sc],ae ma a1 a0,ab 0])/\am W w'))(O:Hid (∀b r W o,L b r W->am W o->ao 12 #[aH b] o λe w'=>∃a c,e=.returned (ae a 2 c)/\Hid (aQ a c w'/\am o w')))(Q:Hid (∀a c g W o,aQ a c W->am W o->o.heap[g]?=some (.cells #[ab 1,ab 2] 3)->ao 11 #[ae a 2 c,ae (some ⟨g,0,none⟩) 2 2] o λe w'=>e=.returned (.bool true)/\am o w'))(aE:Hid (∀b r q g B p h s y0 y1 y2 ya yl yc,L b r p->(am p h/\p.heap.size<=q/\ai h q 1 (ab 7))->p.heap.size<=B->aU B y0 y1 y2 ya yl yc h->JA r h->am h s->(h.heap.size<=g/\s.heap[g]?=some (.cells #[ab 3,ab 1,ab 0,ab y0,ab y1,af y2,ae ya yl yc,ab 1,ab 1,ab 0,ab 0,ab 0,af ⟨#[]⟩,ae none 0 0] 33))->ao 21 #[aH b,ae (some ⟨g,0,none⟩) 2 2] s λe w'=>e=.returned (.bool true)/\Hid (aP b w'/\JA r w'/\ai w' q 1 (ab 7))))(aM:Hid (∀b W,aP b W->ao 12 #[aH b] W λe w'=>∃a c,e=.returned (ae a 0 c)/\am w w')):ao 5 #[] w λe w'=>e=.returned (.bool true)/\am w w':=by
 go_enter Tryz.func5,Tryz.ntmps5;go_wp2_with fail;refine aw.mono ?_;rintro e bh ⟨a,l,c,rfl,ak⟩;have ay:=ap (ax _ _ _ _ ak);clear aw ax ak;go_wp2_with fail;refine ay.mono ?_;rintro e bk ⟨b,rfl,al⟩;have aG:=ap (A _ _ al);have bg:=Qg b;clear ay A al;go_wp2_with fail;refine aG.mono ?_;rintro e t ⟨rfl,an⟩;clear aG;go_upto_region 6 with fail;generalize aZ:t.alloc _=C;have x:Hid (am t C/\t.heap.size=t.heap.size/\JA t.heap.size C):=by
  rw[<-aZ];exact⟨aS _ _,rfl,aD _ _⟩
 clear aZ;have y:Hid (∀W,am C W->am t W/\JA t.heap.size W):=λW i=>⟨x.1.trans (i.mono x.1.size),(i.block _ (aI.1 x.2.2).1).trans x.2.2⟩;generalize S:t.heap.size=r at*;have d:=ap (λW (i:am C W)=>pD x.2.2 i);have E:Hid (am C C.drew):=(aA _ _).drew
 go_region_held3 (λW=>W.cell? ⟨r,0,none⟩=some (Value.int .i64 1)/\W.cell? ⟨r,1,none⟩=some (Value.int .i64 1)/\W.cell? ⟨r,2,none⟩=some (Value.int .i64 0)/\W.cell? ⟨r,3,none⟩=some (Value.int .i64 0)/\W.cell? ⟨r,4,none⟩=some (Value.int .i64 0)/\W.cell? ⟨r,5,none⟩=some (Value.string ⟨#[]⟩)/\W.cell? ⟨r,6,none⟩=some (Value.slice none 0 0)) (first|exact d _ E|exact d _ m|exact d _ I|exact d _ (I.alloc I.size _)|exact pD n.2 (aA _ _)) ((first
  | (go_at_call 22;first
      | (refine(aJ _).mono ?_;rintro e bc ⟨y0,y1,y2,ya,yl,yc,rfl,P⟩;have m:=ap (E.trans (P.2.mono E.size));clear aJ)
      | (refine(aK _).mono ?_;rintro e bd ⟨V,X,Y,Z,ad,aa,rfl,J⟩;have I:=ap (m.trans (J.2.mono m.size));clear aK))
  | (go_at_call 21;refine(aC _ _ _ _ _ _ bc bd _ _ _ _ _ _ _ _ _ _ _ _ _ an ⟨by first|(rw[S];exact(y _ m).1)|exact(y _ m).1,S,(y _ m).2⟩ ⟨(aI.1 (y _ E).2).1,(aI.1 (y _ m).2).1⟩ P.1 J.2 J.1 (aS _ _) ⟨av _,aD _ _⟩).mono ?_;rintro e a2 ⟨rfl,n⟩)))
 have aB:=ap (az _ _ _ n.1);clear aC az x y d E an m I P J S;go_upto_region 8 with fail;go_wp2_with fail;refine aB.mono ?_;rintro e H ⟨nm,U,sa,sl,sc,ma,a1,a0,rfl,aY⟩;have K:=ap aY;clear aB aY;go_upto_region 9 with fail;generalize T:H.alloc _=j;have f:Hid (am a2 j/\a2.heap.size<=H.heap.size/\∀W,am j W->ai W H.heap.size 1 (ab 7)):=by
  have aV:j.heap[H.heap.size]?=some (.cells #[ab 1,ab 7,af U,ae sa sl sc] 31):=by
   rw[<-T];exact aD _ _
  refine⟨K.trans (by rw[<-T];exact(aA _ _).alloc K.size _),K.size,λW i=>?_⟩;have a8:=(i.block _ (aI.1 aV).1).trans aV;exact ah a8 1
 generalize H.heap.size=q at*;clear T K;have A:Hid (∀W,am j W->JA r W):=λW i=>(i.block _ (aW (aI.1 n.2).1 f.1.size)).trans ((f.1.block _ (aI.1 n.2).1).trans n.2);have d:Hid (∀W,am j W->(ai W r 0 (Value.int .i64 1)/\ai W r 1 (Value.int .i64 1)/\ai W r 2 (Value.int .i64 0)/\ai W r 3 (Value.int .i64 0)/\ai W r 4 (Value.int .i64 0)/\ai W r 5 (Value.string ⟨#[]⟩)/\ai W r 6 (Value.slice none 0 0))/\ai W q 1 (ab 7)):=λW i=>⟨pD (A W i) (aA _ _),f.2.2 W i⟩;have F:Hid (am j j.drew):=(aA _ _).drew;have z:Hid (am j (j.alloc (.cells #[ab 1,ab 2] 3)).drew/\(j.alloc (.cells #[ab 1,ab 2] 3)).drew.heap[j.heap.size]?=some (.cells #[ab 1,ab 2] 3)):=⟨(aS _ _).drew,aD _ _⟩
 go_region_held3 (λW=>(W.cell? ⟨r,0,none⟩=some (Value.int .i64 1)/\W.cell? ⟨r,1,none⟩=some (Value.int .i64 1)/\W.cell? ⟨r,2,none⟩=some (Value.int .i64 0)/\W.cell? ⟨r,3,none⟩=some (Value.int .i64 0)/\W.cell? ⟨r,4,none⟩=some (Value.int .i64 0)/\W.cell? ⟨r,5,none⟩=some (Value.string ⟨#[]⟩)/\W.cell? ⟨r,6,none⟩=some (Value.slice none 0 0))/\W.cell? ⟨q,1,none⟩=some (ab 7)) (first|exact d _ F|exact d _ z.1|exact d _ k|exact d _ (k.alloc k.size _)|exact d _ D|exact d _ v|exact d _ (v.alloc v.size _)|exact⟨pD N.2.1 (aA _ _),N.2.2⟩) ((first
  | (go_at_call 12;first
      | (refine(O _ _ _ _ n.1 (f.1.trans (F.mono f.1.size))).mono ?_;rintro e a9 ⟨a6,a7,rfl,u⟩;have k:=ap (F.trans (u.2.mono F.size)))
      | (refine(O _ _ _ _ n.1 (f.1.trans (z.1.mono f.1.size))).mono ?_;rintro e a9 ⟨a6,a7,rfl,u⟩;have k:=ap (z.1.trans (u.2.mono z.1.size));have a4:=ap ((u.2.block _ (aI.1 z.2).1).trans z.2)))
  | (go_at_call 11;first
      | (refine(Q _ _ _ _ _ u.1 (aA _ _) a4).mono ?_;rintro e ba ⟨rfl,G⟩;have D:=ap (k.trans (G.mono k.size));clear G)
      | (refine(Q _ _ _ _ _ u.1 (aS _ _) (aD _ _)).mono ?_;rintro e ba ⟨rfl,G⟩;have D:=ap ((k.alloc k.size _).trans (G.mono (k.alloc k.size _).size));clear G))
  | (go_at_call 22;refine(aL _).mono ?_;rintro e bb ⟨y0,y1,y2,ya,yl,yc,rfl,au⟩;have v:=ap (D.trans (au.2.mono D.size)))
  | (go_at_call 21;refine(aE _ _ q _ _ _ bb _ _ _ _ _ _ _ n.1 ⟨f.1.trans (v.mono f.1.size),f.2.1,f.2.2 _ v⟩ (aF f.1.size D.size) au.1 (A _ v) (aS _ _) ⟨av _,aD _ _⟩).mono ?_;rintro e bi ⟨rfl,N⟩)))
 all_goals
  have a5:=ap (aM _ _ N.1);clear O Q aE aM aL A d F f;go_upto_region 11 with fail;go_wp2_with fail;refine a5.mono ?_;rintro e bj ⟨be,bf,rfl,aX⟩;have a3:=ap aX;clear aX;go_wp2_with fail
  go_ret
  exact⟨rfl,a3⟩
end Go.Proofs.YtmmahddlcldmiaaGreat
