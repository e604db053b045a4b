/- What is proved here: plain facts and contracts that the claimed theorem stands on. No condition but those that each names. -/
import Derived.Test.YtmbjgiaebneodaaGreatG04
import Derived.Deep.RegionHeld3
import Derived.Deep.DrawnRows
namespace Go.Proofs.YtmbjgiaebneodaaGreat
open Go.RowKit
set_option maxHeartbeats 400000
def cg(P:Nat->Prop):(n:Nat)->Tm n->Prop
 | 0,_=>False
 | n+1,x=>x.2.2=[]\/∃b o,x.2.1.1=some ⟨b,o,none⟩/\P b/\∀(i:Nat)(y:Tm n),x.2.2[i]?=some y->cg P n y
theorem cg.mono{P Q:Nat->Prop}(a:∀b,P b->Q b):{n:Nat}->{x:Tm n}->cg P n x->cg Q n x
 | 0,_,k=>k
 | _+1,_,k=>by
  rcases k with k|⟨b,o,e,c,k⟩
  ·exact ae k
  ·exact af ⟨b,o,e,a b c,λi y d=>(k i y d).mono a⟩
theorem bf{w w':World}{b:Nat}(a:w'.heap[b]?=w.heap[b]?)(o:Nat):w'.cell? ⟨b,o,none⟩=w.cell? ⟨b,o,none⟩:=by
 simp[World.cell?,a]
theorem dk.block{w w':World}{b o:Nat}(a:w'.heap[b]?=w.heap[b]?):{n:Nat}->{x:Tm n}->dk w b o n x->dk w' b o n x
 | 0,_,k=>k
 | _+1,_,k=>by
  obtain⟨c,d,e,f⟩:=k;exact⟨(bf a _).trans c,(bf a _).trans d,(bf a _).trans e,(bf a _).trans f⟩
theorem In.off{P:Nat->Prop}{w w':World}(f:∀b,P b->w'.heap[b]?=w.heap[b]?){B:Nat}:{n:Nat}->{x:Tm n}->cg P n x->In B w n x->In B w' n x
 | 0,_,_,k=>k
 | _+1,_,p,k=>by
  obtain⟨m,a⟩:=k;refine⟨m,?_⟩;rcases a with a|⟨b,o,e,j,a⟩
  ·exact ae a
  ·rcases p with p|⟨q,r,c,l,p⟩
   ·exact ae p
   ·rw[e]at c;injection c with c;injection c with g h;subst g h;exact af ⟨b,o,e,j,λi y d=>⟨(a i y d).1.block (f b l),(a i y d).2.off f (p i y d)⟩⟩
theorem In.offB{P:Nat->Prop}{B:Nat}{w:World}:{n:Nat}->{x:Tm n}->cg P n x->In B w n x->cg (λb=>P b/\b<B) n x
 | 0,_,p,_=>p
 | _+1,_,p,k=>by
  obtain⟨_,a⟩:=k;rcases p with p|⟨b,o,e,h,p⟩
  ·exact ae p
  ·rcases a with a|⟨l,m,c,j,a⟩
   ·exact ae a
   ·rw[e]at c;injection c with c;injection c with f g;subst f g;exact af ⟨b,o,e,⟨h,j⟩,λi y d=>In.offB (p i y d) (a i y d).2⟩
def ib:(n:Nat)->Tm n->Nd
 | 0,_=>((0,0,⟨#[]⟩),(none,0,0))
 | n+1,x=>bm n x
def rd(a:An):Nd:=ib a.1 a.2
def fo(l:List An):List Value:=cK (l.map rd)
theorem jK(l:List An):(fo l).length=l.length*4:=by simp[fo,mI]
theorem xw(l:List An):∀u∈fo l,u.oneCell'=true:=re _
def lB(base:Nat)(g c:Nat)(b:List An)(w:World):Prop:=w.ownsRow base 30 4 (.slice (some ⟨g,0,none⟩) b.length c) b.length (fo b)
theorem lB.cells{base g c:Nat}{b:List An}{w:World}(a:lB base g c b w)(i:Nat)(y:An)(d:b[i]?=some y):w.cell? ⟨g,i*4,none⟩=some (.int .i64 (rd y).1.1)/\w.cell? ⟨g,i*4+1,none⟩=some (.int .i64 (rd y).1.2.1)/\w.cell? ⟨g,i*4+2,none⟩=some (.string (rd y).1.2.2)/\w.cell? ⟨g,i*4+3,none⟩=some (.slice (rd y).2.1 (rd y).2.2.1 (rd y).2.2.2):=
 FV (l:=b.map rd) a i (rd y) (by simp[d])
theorem lB.lt{base g c:Nat}{b:List An}{w:World}(a:lB base g c b w):base<=g/\g<w.heap.size:=World.ownsRow.lt a g rfl
theorem lB.kept{base g c:Nat}{b:List An}{w w':World}(d:lB base g c b w){row:Option Nat}(e:w.grownBy w' row)(f:row≠some g):lB base g c b w':=
 nO d e (af λa=>f a.symm)
theorem cu{w w':World}(a:Below w.heap.size w w')(row:Option Nat):w.grownBy w' row:=⟨a.os,a.tape,a.output,a.size,λk b _=>a.block k b⟩
theorem lB.below{base g c:Nat}{b:List An}{w w':World}(a:lB base g c b w)(d:Below w.heap.size w w'):lB base g c b w':=a.kept (cu d none) (by simp)
theorem mD{w w':World}{g B:Nat}(a:w.grownBy w' (some g))(b:B<=g)(c:g<w.heap.size):Below B w w':=⟨a.os,a.tape,a.output,a.size,λk d=>a.block k (by omega) (by simp;omega)⟩
theorem ko{w w1 w2:World}{row:Option Nat}(a:w.grownBy w1 row)(k:w1.grownBy w2 row):w.grownBy w2 row:=
 ⟨k.os.trans a.os,k.tape.trans a.tape,k.output.trans a.output,au a.size k.size,λb c d=>(k.block b (aM c a.size) d).trans (a.block b c d)⟩
theorem lB.free{base g c:Nat}{b:List An}{w:World}(e:lB base g c b w)(j:Nat):w.frozen? ⟨g,j,none⟩=false:=by
 obtain⟨n,d⟩:=e;rcases d with⟨d,_⟩|⟨m,cap,i,h,q,f,o,r,s,p⟩
 ·simp at d
 ·injection h with a k l;injection a with a;injection a with a _;subst a;simp[World.frozen?,f]
def cM(w:World)(g o:Nat)(v0 v1 v2 v3:Value):World:=(((w.setCell ⟨g,o,none⟩ v0).setCell ⟨g,o+1,none⟩ v1).setCell ⟨g,o+2,none⟩ v2).setCell ⟨g,o+3,none⟩ v3
def iq(w:World)(g o:Nat)(x:Nd):World:=cM w g o (.int .i64 x.1.1) (.int .i64 x.1.2.1) (.string x.1.2.2) (.slice x.2.1 x.2.2.1 x.2.2.2)
theorem ii{w:World}{base e size g L c:Nat}{xs:List Value}(h:w.ownsRow base e size (.slice (some ⟨g,0,none⟩) L c) L xs)(j:Nat)(u:Value):(w.setCell ⟨g,j,none⟩ u).ownsRow base e size (.slice (some ⟨g,0,none⟩) L c) L (xs.set j u):=by
 obtain⟨i,b⟩:=h;refine⟨by simpa using i,?_⟩;rcases b with⟨b,_⟩|⟨s,cap,d,p,m,n,k,o,q,l⟩
 ·simp at b
 ·injection p with a r f;injection a with a;injection a with a _;subst a f;refine af ⟨g,c,d.setIfInBounds j u,rfl,m,?_,k,o,by simpa using q,?_⟩
  ·simp[World.setCell,bK,n]
  ·rw[<-l];simp[List.take_set]
theorem rg:(l:List Nd)->(i:Nat)->(x:Nd)->i<l.length-> ((((cK l).set (i*4) (.int .i64 x.1.1)).set (i*4+1) (.int .i64 x.1.2.1)).set (i*4+2) (.string x.1.2.2)).set (i*4+3) (.slice x.2.1 x.2.2.1 x.2.2.2)=cK (l.set i x)
 | [],i,x,h=>by simp at h
 | y::l,0,x,_=>by simp[cK,uQ]
 | y::l,i+1,x,h=>by
  have ih:=rg l i x (by simpa using h);have e:cK (y::l)=uQ y++cK l:=rfl;have b:cK ((y::l).set (i+1) x)=uQ y++cK (l.set i x):=rfl;have a:(uQ y).length=4:=rfl;rw[e,b,<-ih];rw[gw _ _ (by rw[a];omega),gw _ _ (by rw[a];omega),gw _ _ (by rw[a];omega),gw _ _ (by rw[a];omega),a];rw[show (i+1)*4-4=i*4 by omega,show (i+1)*4+1-4=i*4+1 by omega,show (i+1)*4+2-4=i*4+2 by omega,show (i+1)*4+3-4=i*4+3 by omega]
theorem lB.put{base g c:Nat}{b:List An}{w:World}(d:lB base g c b w)(i:Nat)(t:An)(e:i<b.length):lB base g c (b.set i t) (iq w g (i*4) (rd t)):=by
 have a:=ii (ii (ii (ii d (i*4) (.int .i64 (rd t).1.1)) (i*4+1) (.int .i64 (rd t).1.2.1)) (i*4+2) (.string (rd t).1.2.2)) (i*4+3) (.slice (rd t).2.1 (rd t).2.2.1 (rd t).2.2.2);unfold fo at a;rw[rg (b.map rd) i (rd t) (by simpa using e)]at a;unfold lB fo;rw[List.map_set,List.length_set];exact a
theorem aO{w:World}{g b o:Nat}(c:b≠g)(v0 v1 v2 v3:Value):(cM w g o v0 v1 v2 v3).heap[b]?=w.heap[b]? :=by
 have d:g≠b:=λa=>c a.symm;simp[cM,World.setCell,bK,d]
theorem aY{w:World}{g o:Nat}(v0 v1 v2 v3:Value):(cM w g o v0 v1 v2 v3).heap.size=w.heap.size:=by simp[cM,World.setCell]
theorem A6{w:World}{g o:Nat}(v0 v1 v2 v3:Value):w.grownBy (cM w g o v0 v1 v2 v3) (some g):=
 ⟨rfl,rfl,rfl,di (aY _ _ _ _).symm,λk _ b=>aO (λa=>b (by rw[a])) _ _ _ _⟩
theorem BS{w w':World}{v0 v1 v2 v3:Value}{t:TypeId}(c:Below (w.alloc (.cells #[v0,v1,v2,v3] t)).heap.size (w.alloc (.cells #[v0,v1,v2,v3] t)) w'):(w'.cell? ⟨w.heap.size,0,none⟩=some v0/\w'.cell? ⟨w.heap.size,1,none⟩=some v1/\w'.cell? ⟨w.heap.size,2,none⟩=some v2/\w'.cell? ⟨w.heap.size,3,none⟩=some v3)/\ (w'.frozen? ⟨w.heap.size,0,none⟩=false/\w'.frozen? ⟨w.heap.size,1,none⟩=false/\w'.frozen? ⟨w.heap.size,2,none⟩=false/\w'.frozen? ⟨w.heap.size,3,none⟩=false):=by
 have a:=λo=>c.cell (p:=⟨w.heap.size,o,none⟩) (by simp);have b:=λo=>c.frozen (p:=⟨w.heap.size,o,none⟩) (by simp);exact⟨⟨(a 0).trans (by simp[go_sem]),(a 1).trans (by simp[go_sem]),(a 2).trans (by simp[go_sem]),(a 3).trans (by simp[go_sem])⟩,(b 0).trans (by simp[go_sem]),(b 1).trans (by simp[go_sem]),(b 2).trans (by simp[go_sem]),(b 3).trans (by simp[go_sem])⟩
theorem mu{w1 w2:World}{q:Nat}{c d e f:Value}(b:q<w1.heap.size)(l:Below w1.heap.size w1 w2)(k:w1.cell? ⟨q,0,none⟩=some c/\w1.cell? ⟨q,1,none⟩=some d/\w1.cell? ⟨q,2,none⟩=some e/\w1.cell? ⟨q,3,none⟩=some f):w2.cell? ⟨q,0,none⟩=some c/\w2.cell? ⟨q,1,none⟩=some d/\w2.cell? ⟨q,2,none⟩=some e/\w2.cell? ⟨q,3,none⟩=some f:=by
 obtain⟨g,h,i,j⟩:=k;have a:=aj l;exact⟨(a _ _ b).trans g,(a _ _ b).trans h,(a _ _ b).trans i,(a _ _ b).trans j⟩
def en(base g c:Nat)(o:Option (List An))(w:World)(e:Ending)(w':World):Prop:=
 e=.returned (.bool o.isSome)/\w.grownBy w' (some g)/\∀b,o=some b->lB base g c b w'
def zV(B:Nat)(w:World)(b:List An):Prop:=b.length=4/\∀y∈b,CD B w y/\aA y
theorem CD.below{B:Nat}{w w':World}(a:Below B w w'){x:An}(k:CD B w x):CD B w' x:=In.below a k
theorem zV.below{B:Nat}{w w':World}(c:Below B w w'){b:List An}(k:zV B w b):zV B w' b:=⟨k.1,λy a=>⟨(k.2 y a).1.below c,(k.2 y a).2⟩⟩
theorem zV.fit{B:Nat}{w:World}{b a:List An}(k:zV B w b){n m:Nat}{p:Tm n}{t:Tm m}(f:In B w m t)(e:aA ⟨m,t⟩)(d:fM n p m t b=some a):zV B w a:=
 mC (λc=>CD B w c/\aA c) (DK (FW B w) aU) n p m t ⟨f,e⟩ b a k d
def JD(n:Nat):Prop:=∀(p:Tm n)(m:Nat)(t:Tm m)(b:List An)(base g c B:Nat)(w:World),In B w n p->In B w m t->aA ⟨n,p⟩->aA ⟨m,t⟩->zV B w b->B<=base->lB base g c b w->
 Calls Tryz.prog 123 #[.slice (some ⟨g,0,none⟩) 4 c,de n p,de m t] w (en base g c (fM n p m t b) w)
theorem sB(x y:Int)(w:World):Calls Tryz.prog 140 #[.int .i64 x,.int .i64 y] w λe w'=>e=.returned (.int .i64 (mx x y))/\w'=w:=by
 go_enter Tryz.func140,Tryz.ntmps140;go_wp2
 all_goals go_ret
 all_goals refine⟨ie ?_,rfl⟩
 all_goals unfold mx
 all_goals (repeat' split)<;>omega
theorem E7(x y:ByteArray)(w:World):Calls Tryz.prog 141 #[.string x,.string y] w λe w'=>e=.returned (.int .i64 (tZ x y))/\w'=w:=by
 go_enter Tryz.func141,Tryz.ntmps141;go_wp2
 all_goals go_ret
 all_goals refine⟨ie ?_,rfl⟩
 all_goals unfold tZ
 all_goals simp[*]
attribute [local go_sem ↓] Go.wp_at_zero Go.wp_at_succ
def F5(n:Nat):Prop:=∀(x:Tm n)(m:Nat)(y:Tm m)(B:Nat)(w:World),In B w n x->In B w m y->B<=w.heap.size->
 Calls Tryz.prog 135 #[de n x,de m y] w λe w'=>e=.returned (.int .i64 (uT n x m y))/\Below w.heap.size w w'
theorem Hk(p q:Nat)(a c:Option Addr)(pc d:Nat)(w:World)(_hpc:p<=9223372036854775807)(_hqc:q<=9223372036854775807)(b:((p:Int)==(q:Int))=false):Calls Tryz.prog 142 #[.slice a p pc,.slice c q d] w λe w'=>e=.returned (.int .i64 (mx p q))/\w'=w:=by
 have f:((p:Int) !=(q:Int))=true:=by simpa using b
 go_enter Tryz.func142,Tryz.ntmps142;go_wp2_with (go_at_call 140;refine(sB _ _ _).mono ?_;rintro e w' ⟨rfl,rfl⟩)
 go_ret
 exact⟨rfl,rfl⟩
theorem Hj(n m:Nat)(ih:F5 n)(p:List (Tm n))(q:List (Tm m))(len:Nat)(M:Hid (p.length=len))(V:Hid (q.length=len))(g po h l pc X:Nat)(B:Nat)(w:World)(ae:len<=9223372036854775807)(T:g<B)(U:h<B)(L:∀(i:Nat)(y:Tm n),p[i]?=some y->dk w g (po+i*4) n y/\In B w n y)(N:∀(i:Nat)(y:Tm m),q[i]?=some y->dk w h (l+i*4) m y/\In B w m y)(o:B<=w.heap.size):Calls Tryz.prog 142 #[.slice (some ⟨g,po,none⟩) len pc,.slice (some ⟨h,l,none⟩) len X] w λe w'=> e=.returned (.int .i64 (nU (λa b=>uT n a m b) p q))/\Below w.heap.size w w':=by
 go_enter Tryz.func142,Tryz.ntmps142;go_wp2_with fail;go_loopw [19] (λi wr=>∃k:Nat,k<=len/\i=.int .i64 k/\Below w.heap.size w wr/\Hid (nU (λa b=>uT n a m b) (p.drop k) (q.drop k)=nU (λa b=>uT n a m b) p q)) (λi _=>len-(intOf i).toNat)
 case atStart=>exact⟨0,by omega,rfl,ah _ _,rfl⟩
 case round=>
  obtain⟨k,aa,rfl,f,z⟩:=hrel;by_cases K:k<len
  ·obtain⟨c,A⟩:∃c,p[k]?=some c:=⟨p[k]'(by rw[M.out];exact K),az _⟩;obtain⟨y,C⟩:∃y,q[k]?=some y:=⟨q[k]'(by rw[V.out];exact K),az _⟩;obtain⟨s,t⟩:=L k c A;obtain⟨u,v⟩:=N k y C;have E:Hid (nU (λa b=>uT n a m b) (p.drop k) (q.drop k)=if uT n c m y=0 then nU (λa b=>uT n a m b) (p.drop (k+1)) (q.drop (k+1))else uT n c m y):=DG (λa b=>uT n a m b) p q k c y A C;replace s:=s.below (f.mono o) T;replace u:=u.below (f.mono o) U;replace t:=t.below (f.mono o);replace v:=v.below (f.mono o);clear L N A C;cases n with
   | zero=>exact s.elim
   | succ n=>
   cases m with
   | zero=>exact u.elim
   | succ m=>
   obtain⟨ak,al,am,an⟩:=s;obtain⟨y0,y1,y2,ao⟩:=u;have J:∀(d:World),In B d (n+1) c->In B d (m+1) y->B<=d.heap.size->Calls Tryz.prog 135 #[.agg #[.int .i64 c.1.1,.int .i64 c.1.2.1,.string c.1.2.2,.slice c.2.1.1 c.2.2.length c.2.1.2],.agg #[.int .i64 y.1.1,.int .i64 y.1.2.1,.string y.1.2.2,.slice y.2.1.1 y.2.2.length y.2.1.2]] d λe w'=>e=.returned (.int .i64 (uT (n+1) c (m+1) y))/\Below d.heap.size d w':=λd P Q R=>ih c (m+1) y B d P Q R;have D:=ai J;clear J ih;have F:=ai t;have G:=ai v;clear t v;generalize uT (n+1) c (m+1) y=r at*;generalize c.2.2.length=Y at*;generalize y.2.2.length=yl at*;have ab:(0:Int)<=(k:Int):=by omega
   have ad:(k:Int)<(len:Int):=by omega
   have S:B<=wr.heap.size:=au o f.size;have O:=ai (D.out wr.drew (F.out.below (ah _ _).drew) (G.out.below (ah _ _).drew) S);have af:g<wr.heap.size:=by omega
   have ag:h<wr.heap.size:=by omega
   clear D F G;go_wp2_with fail
   go_region_held3 (λw'=>w'.cell? ⟨g,po+k*4,none⟩=some (.int .i64 c.1.1)/\w'.cell? ⟨g,po+k*4+1,none⟩=some (.int .i64 c.1.2.1)/\w'.cell? ⟨g,po+k*4+2,none⟩=some (.string c.1.2.2)/\w'.cell? ⟨g,po+k*4+3,none⟩=some (.slice c.2.1.1 Y c.2.1.2)
       /\w'.cell? ⟨h,l+k*4,none⟩=some (.int .i64 y.1.1)/\w'.cell? ⟨h,l+k*4+1,none⟩=some (.int .i64 y.1.2.1)/\w'.cell? ⟨h,l+k*4+2,none⟩=some (.string y.1.2.2)/\w'.cell? ⟨h,l+k*4+3,none⟩=some (.slice y.2.1.1 yl y.2.1.2))
    (go_keep) ((go_at_call 135;refine O.out.mono ?_;rintro e d ⟨rfl,H⟩;have Z:=aj (ci H)))
   have I:Below w.heap.size w d:=f.trans ((ci H).mono f.size);by_cases j:r=0
   ·have x:Hid (r=0):=j;have W:(r !=0)=false:=by rw[j];rfl
    clear j;go_wp2_with fail;go_roundw
    case rel=>exact⟨k+1,by omega,by go_num,I,by rw[<-z.out,E.out,if_pos x.out];rfl⟩
    case measure=>simp[intOf];omega
   ·have x:Hid (¬r=0):=j;have W:(r !=0)=true:=by simpa using j
    clear j;go_wp2_with fail
    go_ret
    exact⟨ie (by rw[<-z.out,E.out,if_neg x.out]),I⟩
  ·go_wp2_with fail
   go_ret
   refine⟨ie ?_,f⟩;rw[<-z.out,fC (by rw[M.out];omega)];rfl
theorem xA(n m:Nat)(a c:Option Addr)(pc d:Nat)(w:World):Calls Tryz.prog 142 #[.slice a ([]:List (Tm n)).length pc,.slice c ([]:List (Tm m)).length d] w λe w'=>e=.returned (.int .i64 (nU (λa b=>uT n a m b) [] []))/\Below w.heap.size w w':=by
 show Calls Tryz.prog 142 #[.slice a 0 pc,.slice c 0 d] w λe w'=>e=.returned (.int .i64 0)/\Below w.heap.size w w';go_enter Tryz.func142,Tryz.ntmps142;go_wp2_with fail
 go_loop [19] (λf=>f=.int .i64 0) (λ_=>0)
 case atStart=>rfl
 case round=>
  obtain rfl:=hrel;go_wp2_with fail
  go_ret
  exact⟨rfl,ah _ _⟩
theorem AZ(w:World)(k b u h:Int)(s g:ByteArray)(a c:Option Addr)(pl f pc d:Nat)(e:¬k=b):Calls Tryz.prog 135 #[.agg #[.int .i64 k,.int .i64 u,.string s,.slice a pl pc],.agg #[.int .i64 b,.int .i64 h,.string g,.slice c f d]] w λe w'=>e=.returned (.int .i64 (mx k b))/\Below w.heap.size w w':=by
 have i:(k !=b)=true:=by simpa using e
 clear e;go_enter Tryz.func135,Tryz.ntmps135;go_wp2_with (go_at_call 140;refine(sB _ _ _).mono ?_;rintro e w' ⟨rfl,rfl⟩)
 go_ret
 exact⟨rfl,((ah _ _).alloc (ag _) _).alloc (by simp) _⟩
theorem qx(w:World)(k u d:Int)(s c:ByteArray)(a f:Option Addr)(pl h pc g:Nat)(r:Int)(b:k=1\/k=3\/k=5):Calls Tryz.prog 135 #[.agg #[.int .i64 k,.int .i64 u,.string s,.slice a pl pc],.agg #[.int .i64 k,.int .i64 d,.string c,.slice f h g]] w λe w'=>e=.returned (.int .i64 (if k=1\/k=3\/k=5 then mx u d else if k=2 then tZ s c else if k=4 then r else 0))/\Below w.heap.size w w':=by
 rw[if_pos b];rcases b with rfl|rfl|rfl
 all_goals
  go_enter Tryz.func135,Tryz.ntmps135;go_wp2_with (go_at_call 140;refine(sB _ _ _).mono ?_;rintro e w' ⟨rfl,rfl⟩)
  go_ret
  exact⟨rfl,((ah _ _).alloc (ag _) _).alloc (by simp) _⟩
theorem DI(w:World)(u g:Int)(s b:ByteArray)(a c:Option Addr)(pl f pc d:Nat):Calls Tryz.prog 135 #[.agg #[.int .i64 2,.int .i64 u,.string s,.slice a pl pc],.agg #[.int .i64 2,.int .i64 g,.string b,.slice c f d]] w λe w'=>e=.returned (.int .i64 (tZ s b))/\Below w.heap.size w w':=by
 go_enter Tryz.func135,Tryz.ntmps135;go_wp2_with (go_at_call 141;refine(E7 _ _ _).mono ?_;rintro e w' ⟨rfl,rfl⟩)
 go_ret
 exact⟨rfl,((ah _ _).alloc (ag _) _).alloc (by simp) _⟩
theorem AY(w:World)(k u m:Int)(s l:ByteArray)(a h:Option Addr)(pl j pc i:Nat)(b:¬k=1)(c:¬k=2)(d:¬k=3)(f:¬k=4)(g:¬k=5):Calls Tryz.prog 135 #[.agg #[.int .i64 k,.int .i64 u,.string s,.slice a pl pc],.agg #[.int .i64 k,.int .i64 m,.string l,.slice h j i]] w λe w'=>e=.returned (.int .i64 0)/\Below w.heap.size w w':=by
 have n:(k==1)=false:=by simpa using b
 have o:(k==2)=false:=by simpa using c
 have p:(k==3)=false:=by simpa using d
 have q:(k==4)=false:=by simpa using f
 have r:(k==5)=false:=by simpa using g
 clear b c d f g;go_enter Tryz.func135,Tryz.ntmps135;go_wp2_with fail
 go_ret
 exact⟨rfl,((ah _ _).alloc (ag _) _).alloc (by simp) _⟩
theorem DJ(w:World)(u j:Int)(s i:ByteArray)(a b:Option Addr)(pl f pc d:Nat)(r:Int)(c:∀w1:World,Below w.heap.size w w1->Calls Tryz.prog 142 #[.slice a pl pc,.slice b f d] w1 λe w'=>e=.returned (.int .i64 r)/\Below w1.heap.size w1 w'):Calls Tryz.prog 135 #[.agg #[.int .i64 4,.int .i64 u,.string s,.slice a pl pc],.agg #[.int .i64 4,.int .i64 j,.string i,.slice b f d]] w λe w'=>e=.returned (.int .i64 r)/\Below w.heap.size w w':=by
 have g:=ai c;clear c;go_enter Tryz.func135,Tryz.ntmps135;go_wp2_with fail;refine(g.out _ (((ah _ _).alloc (ag _) _).alloc (by simp) _)).mono ?_;rintro e w' ⟨rfl,h⟩;go_wp2_with fail
 go_ret
 exact⟨rfl,(((ah _ _).alloc (ag _) _).alloc (by simp) _).trans (h.mono (by simp;omega))⟩
theorem DH(n:Nat):F5 n:=by
 induction n with
 | zero=>intro U h t H f G;exact G.elim
 | succ n ih=>
  intro U h t H f G s w;cases h with
  | zero=>exact s.elim
  | succ h=>
  obtain⟨⟨k,l,i⟩,⟨a,pc⟩,c⟩:=U;obtain⟨⟨z,m,j⟩,⟨g,e⟩,d⟩:=t;obtain⟨⟨M,Y,S,P,E⟩,q⟩:=G;obtain⟨⟨N,Z,T,R,F⟩,r⟩:=s;simp only at M Y S P E q N Z T R F r
  show Calls Tryz.prog 135 #[.agg #[.int .i64 k,.int .i64 l,.string i,.slice a c.length pc],.agg #[.int .i64 z,.int .i64 m,.string j,.slice g d.length e]] f λp B=>p=.returned (.int .i64 (if k=z then
   if k=1\/k=3\/k=5 then mx l m else if k=2 then tZ i j else if k=4 then if c.length=d.length then nU (λa b=>uT n a h b) c d else mx c.length d.length
   else 0 else mx k z))/\Below f.heap.size f B
  have V:∀o:World,Below f.heap.size f o->Calls Tryz.prog 142 #[.slice a c.length pc,.slice g d.length e] o λp B=>p=.returned (.int .i64 (if c.length=d.length then nU (λa b=>uT n a h b) c d else mx c.length d.length))/\Below o.heap.size o B:=by
   intro o x;unfold maxLen at E F;by_cases u:c.length=d.length
   ·rw[if_pos u];rcases q with q|⟨aa,po,rfl,O,q⟩
    ·subst q;have X:d=[]:=bL u.symm;subst X;exact xA n h a g pc e o
    ·rcases r with r|⟨ab,ad,rfl,Q,r⟩
     ·subst r;have W:c=[]:=bL u;subst W;exact xA n h _ g pc e o
     ·have L:=Hj n h ih c d c.length rfl u.symm aa po ab ad pc e H o (by omega) O Q (λy t s=>⟨(q y t s).1.below (x.mono w) O,(q y t s).2.below (x.mono w)⟩)
        (λy t s=>⟨(r y t s).1.below (x.mono w) Q,(r y t s).2.below (x.mono w)⟩) (au w x.size)
      rw[u]at L;rw[u];exact L
   ·rw[if_neg u];refine(Hk c.length d.length a g pc e o (by omega) (by omega) (by simp;omega)).mono ?_;rintro p B ⟨rfl,rfl⟩;exact⟨rfl,ah _ _⟩
  generalize (if c.length=d.length then nU (λa b=>uT n a h b) c d else mx c.length d.length)=A at*;clear q r ih P E R F S T w;generalize c.length=pl at*;generalize d.length=v at*;obtain⟨ag,aj⟩:=M;obtain⟨ai,ak⟩:=N;by_cases p:k=z
  ·subst p;rw[if_pos rfl];by_cases I:k=1
   ·subst I;exact qx f 1 l m i j a g pl v pc e A (ae rfl)
   by_cases J:k=3
   ·subst J;exact qx f 3 l m i j a g pl v pc e A (af (ae rfl))
   by_cases K:k=5
   ·subst K;exact qx f 5 l m i j a g pl v pc e A (af (af rfl))
   rw[if_neg (by omega)];by_cases C:k=2
   ·subst C;exact DI f l m i j a g pl v pc e
   rw[if_neg C];by_cases D:k=4
   ·subst D;exact DJ f l m i j a g pl v pc e A V
   rw[if_neg D];exact AY f k l m i j a g pl v pc e I C J D K
  ·rw[if_neg p];exact AZ f k z l m i j a g pl v pc e p
theorem il(k u:Int)(s:ByteArray)(a:Option Addr)(l c:Nat)(w:World):Calls Tryz.prog 132 #[.agg #[.int .i64 k,.int .i64 u,.string s,.slice a l c]] w λe w'=>e=.returned (.bool (!(k==6)))/\Below w.heap.size w w':=by
 cases h:k==6
 all_goals
  go_enter Tryz.func132,Tryz.ntmps132;go_wp2_with fail
  go_ret
  exact⟨ew (by simp[bne,h]),(ah _ _).alloc (ag _) _⟩
theorem yS(x:An)(y:An)(B:Nat)(w:World)(d:CD B w x)(f:CD B w y)(b:B<=w.heap.size)(g:aA x)(h:aA y):Calls Tryz.prog 135 #[de x.1 x.2,de y.1 y.2] w λe w'=>∃r,e=.returned (.int .i64 r)/\Hid ((r==0)=dQ x y)/\Below w.heap.size w w':=by
 refine(DH x.1 x.2 y.1 y.2 B w d f b).mono ?_;rintro e w' ⟨rfl,c⟩;refine⟨_,rfl,?_,c⟩;have a:=yR x.1 x.2 y.1 y.2 g h;unfold Hid dQ;cases hs:aw x.1 x.2 y.1 y.2
 ·rw[hs]at a;simp only[nB,iff_false]at a;simpa using a
 ·rw[hs]at a;simp only[iff_true]at a;simpa using a
theorem Ft(b:List An)(base g c B:Nat)(w:World)(k:Nat)(K:k<4)(m:Nat)(t:Tm (m+1))(y:zV B w b)(M:In B w (m+1) t)(L:aA ⟨m+1,t⟩)(Y:B<=base)(H:lB base g c b w):Calls Tryz.prog 133 #[.slice (some ⟨g,0,none⟩) 4 c,.int .i64 k,.agg #[.int .i64 t.1.1,.int .i64 t.1.2.1,.string t.1.2.2,.slice t.2.1.1 t.2.2.length t.2.1.2]] w (en base g c (sI b k ⟨m+1,t⟩) w):=by
 obtain⟨a,v⟩:∃a,b[k]?=some a:=⟨b[k]'(by rw[y.1];exact K),az _⟩;obtain⟨E,N⟩:=y.2 a (ax v);obtain⟨n,a⟩:=a;cases n with
 | zero=>exact E.elim
 | succ n=>
 have D:Hid (sI b k ⟨m+1,t⟩=if a.1.1=6 then some (b.set k ⟨m+1,t⟩)else if dQ ⟨n+1,a⟩ ⟨m+1,t⟩then some b else none):=by simp only[Hid,sI,v,bD];rfl
 obtain⟨j,l,p,q⟩:=H.cells k _ v;simp only[rd,ib,bm]at j l p q;have ae:(0:Int)<=(k:Int):=by omega
 have af:(k:Int)<4:=by omega
 have A:=ai H;have I:=ai v;have R:g<w.heap.size:=H.lt.2;clear v H;generalize sI b k ⟨m+1,t⟩=o at*;cases h6:a.1.1==6
 case true=>
  go_enter Tryz.func133,Tryz.ntmps133;go_wp2_with fail;refine(il _ _ _ _ _ _ _).mono ?_;rintro h e ⟨rfl,d⟩;have f:=ai d;clear j l p q;have r:Hid (lB base g c b e):=(A.out.kept (dj w _ none) (by simp)).below d;have aa:=λS=>r.out.free S;obtain⟨⟨U,V,W,X⟩,_⟩:=BS d;obtain⟨j,l,p,q⟩:=r.out.cells k _ I.out;simp only[rd,ib,bm]at j l p q;clear d;go_wp2_with fail
  go_ret
  have s:o=some (b.set k ⟨m+1,t⟩):=by rw[D.out,if_pos (by simpa using h6)]
  subst s;exact⟨rfl,ko (cu (((ah _ _).alloc (ag _) _).trans (f.out.mono (by simp))) _) (A6 _ _ _ _),λJ h=>by obtain rfl:=aq h;exact r.out.put k ⟨m+1,t⟩ (by rw[y.1];exact K)⟩
 case false=>
  go_enter Tryz.func133,Tryz.ntmps133;go_wp2_with fail;refine(il _ _ _ _ _ _ _).mono ?_;rintro h e ⟨rfl,d⟩;clear j l p q;have f:Hid (Below w.heap.size w e):=((ah _ _).alloc (ag _) _).trans (d.mono (by simp));have r:Hid (lB base g c b e):=(A.out.kept (dj w _ none) (by simp)).below d;obtain⟨⟨U,V,W,X⟩,_⟩:=BS d;obtain⟨j,l,p,q⟩:=r.out.cells k _ I.out;simp only[rd,ib,bm]at j l p q;have z:Hid (B<=w.heap.size):=by have:=A.out.lt;unfold Hid;omega
  have P:Hid (w.heap.size<e.heap.size):=by have:=d.size;simp at this;unfold Hid;omega
  have F:Hid (CD B e ⟨n+1,a⟩/\CD B e ⟨m+1,t⟩):=⟨E.below (f.out.mono z.out),CD.below (x:=⟨m+1,t⟩) (f.out.mono z.out) M⟩;have Q:=ai (yS ⟨n+1,a⟩ ⟨m+1,t⟩ B e.drew (F.out.1.below (ah _ _).drew) (F.out.2.below (ah _ _).drew) (au z.out f.out.size) N L);clear d M E y N L;go_wp2_with fail
  go_region_held3 (λi=>i.cell? ⟨g,k*4,none⟩=some (.int .i64 a.1.1)/\i.cell? ⟨g,k*4+1,none⟩=some (.int .i64 a.1.2.1)/\i.cell? ⟨g,k*4+2,none⟩=some (.string a.1.2.2)/\i.cell? ⟨g,k*4+3,none⟩=some (.slice a.2.1.1 a.2.2.length a.2.1.2)
        /\i.cell? ⟨w.heap.size,0,none⟩=some (.int .i64 t.1.1)/\i.cell? ⟨w.heap.size,1,none⟩=some (.int .i64 t.1.2.1)/\i.cell? ⟨w.heap.size,2,none⟩=some (.string t.1.2.2)/\i.cell? ⟨w.heap.size,3,none⟩=some (.slice t.2.1.1 t.2.2.length t.2.1.2))
      (go_keep) ((go_at_call 135;refine Q.out.mono ?_;rintro h O ⟨T,rfl,G,u⟩;have Z:=aj (ci u);have ab:g<e.heap.size:=aM R f.out.size;have ad:w.heap.size<e.heap.size:=P.out))
  replace u:=ci u;have C:Hid (w.grownBy O (some g)/\lB base g c b O):=⟨cu (f.out.trans (u.mono f.out.size)) _,r.out.below u⟩;have s:o=if dQ ⟨n+1,a⟩ ⟨m+1,t⟩then some b else none:=by rw[D.out,if_neg (by simpa using h6)]
  rw[<-G.out]at s;clear G D;cases h0:T==0
  all_goals
   rw[h0]at s;go_wp2_with fail
   go_ret
   simp only[nB,if_false,cR]at s;subst s
  ·exact⟨rfl,C.out.1,λJ h=>by cases h⟩
  ·exact⟨rfl,C.out.1,λJ h=>by obtain rfl:=aq h;exact C.out.2⟩
def Gk(x:Nd):Bool:= !(x.1.1==5) && !(x.1.1==6)
def jh(n:Nat)(x:Tm n):Bool:=(ap n x).all Gk
def aF:(n:Nat)->Tm n->Bool
 | 0,_=>true
 | n+1,x=> !(x.1.1==5) && !(x.1.1==6) && x.2.2.all λy=>aF n y
theorem eN:(n:Nat)->(x:Tm n)->aF n x=jh n x
 | 0,_=>by simp[aF,jh,ap,Gk]
 | n+1,x=>by
  have key:∀l:List (Tm n),(l.all λy=>aF n y)=(l.flatMap λy=>ap n y).all Gk:=by
   intro l
   induction l with
   | nil=>rfl
   | cons y l ih=>
    have:=eN n y;unfold jh at this;simp only[List.all_cons,bj,List.all_append,ih,this]
  show (!(x.1.1==5) && !(x.1.1==6) && x.2.2.all λy=>aF n y)=(Gk (x.1,(x.2.1.1,x.2.2.length,x.2.1.2)) && (x.2.2.flatMap λy=>ap n y).all Gk);rw[key];rfl
def KB(n:Nat):Prop:=∀(x:Tm n)(B:Nat)(w:World),In B w n x->B<=w.heap.size->
 Calls Tryz.prog 43 #[de n x] w λe w'=>e=.returned (.bool (aF n x))/\Below w.heap.size w w'
theorem xO(n:Nat)(ih:KB n)(h I:Int)(s:ByteArray)(a:Option Addr)(pc len:Nat)(p:List (Tm n))(C:Hid (p.length=len))(B:Nat)(w:World)(g:Hid (p=[]\/∃b o,a=some ⟨b,o,none⟩/\b<B/\∀(i:Nat)(y:Tm n),p[i]?=some y->dk w b (o+i*4) n y/\In B w n y))(M:len<=9223372036854775807)(r:B<=w.heap.size):Calls Tryz.prog 43 #[.agg #[.int .i64 h,.int .i64 I,.string s,.slice a len pc]] w λe w'=>e=.returned (.bool (!(h==5) && !(h==6) && p.all λy=>aF n y))/\Below w.heap.size w w':=by
 cases h5:h==5
 case true=>
  go_enter Tryz.func43,Tryz.ntmps43;go_wp2_with fail
  go_ret
  exact⟨bE (by simp),(ah _ _).alloc (ag _) _⟩
 cases h6:h==6
 case true=>
  go_enter Tryz.func43,Tryz.ntmps43;go_wp2_with fail
  go_ret
  exact⟨bE (by simp),(ah _ _).alloc (ag _) _⟩
 have v:(!false && !false && p.all λy=>aF n y)=p.all λy=>aF n y:=by simp
 rw[v];clear v;go_enter Tryz.func43,Tryz.ntmps43;go_wp2_with fail;go_loopw [16] (λi wr=>∃k:Nat,k<=len/\i=.int .i64 k/\Below w.heap.size w wr/\Hid (((p.drop k).all λy=>aF n y)=p.all λy=>aF n y)) (λi _=>len-(intOf i).toNat)
 case atStart=>exact⟨0,by omega,rfl,(ah _ _).alloc (ag _) _,rfl⟩
 case round=>
  obtain⟨k,J,rfl,f,t⟩:=hrel;by_cases F:k<len
  ·obtain⟨c,l⟩:∃c,p[k]?=some c:=⟨p[k]'(by rw[C.out];exact F),az _⟩;have u:Hid (((p.drop k).all λy=>aF n y)=(aF n c && (p.drop (k+1)).all λy=>aF n y)):=by
    obtain⟨j,E⟩:=aK.1 l;rw[eA j,E];rfl
   rcases g.out with g|⟨N,po,rfl,G,g⟩
   ·subst g;simp at l
   obtain⟨m,q⟩:=g k c l;replace m:=m.below (f.mono r) G;replace q:=q.below (f.mono r);clear g l;cases n with
   | zero=>exact m.elim
   | succ n=>
   obtain⟨O,P,Q,R⟩:=m;have x:B<=wr.heap.size:=au r f.size
   have D:Hid (∀d,Below wr.heap.size wr d->Calls Tryz.prog 43 #[.agg #[.int .i64 c.1.1,.int .i64 c.1.2.1,.string c.1.2.2,.slice c.2.1.1 c.2.2.length c.2.1.2]] d λe w'=>e=.returned (.bool (aF (n+1) c))/\Below d.heap.size d w'):=
    λd j=>ih c B d (q.below (j.mono x)) (au x j.size)
   clear ih q;generalize c.2.2.length=S at*;generalize aF (n+1) c=H at*;have K:(0:Int)<=(k:Int):=by omega
   have L:(k:Int)<(len:Int):=by omega
   go_wp2_with fail;refine(D.out _ ((ah _ _).alloc (ag _) _)).mono ?_;rintro e d ⟨rfl,z⟩;have A:Below w.heap.size w d:=(f.trans (((ah _ _).alloc (ag _) _).mono f.size)).trans (z.mono (by have:=f.size;simp;omega));clear z;cases H with
   | true=>
    go_wp2_with fail;go_roundw
    case rel=>exact⟨k+1,by omega,by go_num,A,by rw[<-t.out,u.out];rfl⟩
    case measure=>simp[intOf];omega
   | false=>
    go_wp2_with fail
    go_ret
    exact⟨bE (by rw[<-t.out,u.out];rfl),A⟩
  ·go_wp2_with fail
   go_ret
   refine⟨bE ?_,f⟩;rw[<-t.out,fC (by rw[C.out];omega)];rfl
theorem gK(n:Nat):KB n:=by
 induction n with
 | zero=>intro g b f a;exact a.elim
 | succ n ih=>
  intro g b f a i;obtain⟨⟨k,m,l⟩,⟨h,pc⟩,e⟩:=g;obtain⟨⟨_,_,_,j,d⟩,c⟩:=a;simp only at j d c;unfold maxLen at d;exact xO n ih k m l h pc e.length e rfl b f c (by omega) i
def eQ:(n:Nat)->Tm n->Int
 | 0,_=>0
 | n+1,x=>if x.1.1=4 then 1+x.2.2.foldl (λm y=>max m (eQ n y)) 0 else 0
def qV(n:Nat)(p:List (Tm n))(k:Nat):Int:=(p.take k).foldl (λm y=>max m (eQ n y)) 0
theorem Am(n:Nat)(p:List (Tm n))(k:Nat)(x:Tm n)(b:p[k]?=some x):qV n p (k+1)=max (qV n p k) (eQ n x):=by
 obtain⟨c,a⟩:=aK.1 b;unfold qV;rw[nJ c,a,ld];rfl
theorem ov{n:Nat}(N:Int):(l:List (Tm n))->(m:Int)->0<=m->m<=N->(∀y∈l,0<=eQ n y/\eQ n y<=N)->0<=l.foldl (λm y=>max m (eQ n y)) m/\l.foldl (λm y=>max m (eQ n y)) m<=N
 | [],_,h0,h1,_=>⟨h0,h1⟩
 | y::l,m,h0,h1,h=>by
  have c:=h y (by simp);exact ov N l (max m (eQ n y)) (by omega) (by omega) (λb a=>h b (by simp[a]))
theorem jl{n:Nat}(l:List (Tm n))(y:Tm n)(c:y∈l):(ap n y).length<=(l.flatMap λy=>ap n y).length:=by
 obtain⟨a,d⟩:=cF c;have b:=Cw (λy=>ap n y) l (a+1);rw[Ef _ l a y d,aW]at b;omega
theorem fq:(n:Nat)->(x:Tm n)->0<=eQ n x/\eQ n x<=(ap n x).length
 | 0,_=>by simp[eQ]
 | n+1,x=>by
  have e:=ov ((x.2.2.flatMap λy=>ap n y).length:Int) x.2.2 0 (by omega) (by omega) (λy b=>by
   have c:=fq n y;have d:=jl x.2.2 y b
   omega)
  simp only[eQ,ap,aZ];by_cases a:x.1.1=4
  ·rw[if_pos a];omega
  ·rw[if_neg a];omega
theorem xU(n:Nat)(p:List (Tm n))(k:Nat):0<=qV n p k/\qV n p k<=(p.flatMap λy=>ap n y).length:=
 ov _ (p.take k) 0 (by omega) (by omega) (λy a=>by
  have b:=fq n y;have c:=jl p y (List.mem_of_mem_take a)
  omega)
def KC(n:Nat):Prop:=∀(x:Tm n)(B:Nat)(w:World),In B w n x->B<=w.heap.size->(ap n x).length<=2097152->
 Calls Tryz.prog 66 #[de n x] w λe w'=>e=.returned (.int .i64 (eQ n x))/\Below w.heap.size w w'
theorem Ao(b d:Int)(s:ByteArray)(a:Option Addr)(len pc:Nat)(w:World)(c:¬b=4):Calls Tryz.prog 66 #[.agg #[.int .i64 b,.int .i64 d,.string s,.slice a len pc]] w λe w'=>e=.returned (.int .i64 0)/\Below w.heap.size w w':=by
 have f:(b !=4)=true:=by simpa using c
 clear c;go_enter Tryz.func66,Tryz.ntmps66;go_wp2_with fail
 go_ret
 exact⟨rfl,(ah _ _).alloc (ag _) _⟩
theorem CW(n:Nat)(ih:KC n)(P:Int)(s:ByteArray)(a:Option Addr)(pc len:Nat)(p:List (Tm n))(E:Hid (p.length=len))(B:Nat)(w:World)(h:Hid (p=[]\/∃b o,a=some ⟨b,o,none⟩/\b<B/\∀(i:Nat)(y:Tm n),p[i]?=some y->dk w b (o+i*4) n y/\In B w n y))(T:len<=9223372036854775807)(u:B<=w.heap.size)(O:Hid (1+(p.flatMap λy=>ap n y).length<=2097152)):Calls Tryz.prog 66 #[.agg #[.int .i64 4,.int .i64 P,.string s,.slice a len pc]] w λe w'=> e=.returned (.int .i64 (1+p.foldl (λm y=>max m (eQ n y)) 0))/\Below w.heap.size w w':=by
 go_enter Tryz.func66,Tryz.ntmps66;go_wp2_with fail;go_loopw [3,12] (λt i wr=>∃k:Nat,∃d:Int,k<=len/\i=.int .i64 k/\t=.int .i64 d/\Hid (d=qV n p k)/\Below w.heap.size w wr) (λ_ i _=>len-(intOf i).toNat)
 case atStart=>exact⟨0,0,by omega,rfl,rfl,by simp[Hid,qV],(ah _ _).alloc (ag _) _⟩
 case round=>
  obtain⟨k,d,Q,rfl,rfl,v,g⟩:=hrel;have r:=xU n p k;rw[<-v.out]at r;have K:=O.out;have V:0<=d:=r.1;have W:d<=2097152:=by omega
  clear r;by_cases M:k<len
  ·obtain⟨c,j⟩:∃c,p[k]?=some c:=⟨p[k]'(by rw[E.out];exact M),az _⟩;have I:=ai (Am n p k c j);have J:=jl p c (ax j);have F:(ap n c).length<=2097152:=by omega
   clear J K;rcases h.out with h|⟨U,po,rfl,N,h⟩
   ·subst h;simp at j
   obtain⟨l,q⟩:=h k c j;replace l:=l.below (g.mono u) N;replace q:=q.below (g.mono u);clear h j;cases n with
   | zero=>exact l.elim
   | succ n=>
   obtain⟨X,Y,Z,aa⟩:=l;have A:B<=wr.heap.size:=au u g.size
   have G:Hid (∀f,Below wr.heap.size wr f->Calls Tryz.prog 66 #[.agg #[.int .i64 c.1.1,.int .i64 c.1.2.1,.string c.1.2.2,.slice c.2.1.1 c.2.2.length c.2.1.2]] f λe w'=>e=.returned (.int .i64 (eQ (n+1) c))/\Below f.heap.size f w'):=
    λf z=>ih c B f (q.below (z.mono A)) (au A z.size) F
   clear ih q F;generalize c.2.2.length=ab at*;generalize eQ (n+1) c=x at*;have R:(0:Int)<=(k:Int):=by omega
   have S:(k:Int)<(len:Int):=by omega
   go_wp2_with fail;refine(G.out _ ((ah _ _).alloc (ag _) _)).mono ?_;rintro e f ⟨rfl,C⟩;have L:Below w.heap.size w f:=(g.trans (((ah _ _).alloc (ag _) _).mono g.size)).trans (C.mono (by have:=g.size;simp;omega));clear C;have D:max d x=if d<x then x else d:=by split<;>omega
   have H:=ai D;clear D;go_wp2_with fail;go_roundw
   case rel=>exact⟨k+1,_,by omega,by go_num,rfl,by simp only[Hid];rw[I.out,<-v.out,H.out],L⟩
   case measure=>simp[intOf];omega
  ·go_wp2_with fail
   go_ret
   refine⟨ie ?_,g⟩;rw[v.out];unfold qV;rw[bk (by rw[E.out];omega)]
theorem CV(n:Nat):KC n:=by
 induction n with
 | zero=>intro o i b g;exact g.elim
 | succ n ih=>
  intro o i b g q m;obtain⟨⟨k,e,d⟩,⟨c,pc⟩,a⟩:=o;obtain⟨⟨_,_,_,s,l⟩,j⟩:=g;simp only at s l j;unfold maxLen at l;have r:(ap (n+1) ((k,e,d),(c,pc),a)).length=1+(a.flatMap λh=>ap n h).length:=by simp only[ap,aZ];omega
  rw[r]at m;show Calls Tryz.prog 66 #[.agg #[.int .i64 k,.int .i64 e,.string d,.slice c a.length pc]] b λp u=>p=.returned (.int .i64 (if k=4 then 1+a.foldl (λt h=>max t (eQ n h)) 0 else 0))/\Below b.heap.size b u;by_cases f:k=4
  ·subst f;exact CW n ih e d c pc a.length a rfl i b j (by omega) q m
  ·rw[if_neg f];exact Ao k e d c a.length pc b f
def og(n:Nat)(p:List (Tm n))(k:Nat):Int:=1+p.length+((p.take k).map λy=>sz n y).sum
theorem BC(n:Nat)(p:List (Tm n))(k:Nat)(x:Tm n)(b:p[k]?=some x):og n p (k+1)=og n p k+sz n x:=by
 obtain⟨c,a⟩:=aK.1 b;unfold og;rw[nJ c,a];simp;omega
theorem Ee(n:Nat)(l:List (Tm n)):(l.map λy=>1+sz n y).sum=l.length+(l.map λy=>sz n y).sum:=by
 induction l with
 | nil=>simp
 | cons y l ih=>simp only[aJ,br,aZ,ih];omega
theorem Ep(n:Nat)(p:List (Tm n))(k:Nat)(a:p.length<=k):og n p k=1+(p.map λy=>1+sz n y).sum:=by
 unfold og;rw[bk a,Ee];omega
theorem uJ(n:Nat)(p:List (Tm n)):p.length<=(p.flatMap λy=>ap n y).length:=by
 induction p with
 | nil=>simp
 | cons y l ih=>
  have:1<=(ap n y).length:=by cases n<;>simp[ap]
  simp only[bj,aW,aZ];omega
theorem zJ(n:Nat)(p:List (Tm n))(k:Nat):0<=og n p k/\og n p k<=3*(1+(p.flatMap λy=>ap n y).length:Int):=by
 have b:=uJ n p;have a:=Cw (λy=>ap n y) p k;have key:∀l:List (Tm n),0<=(l.map λy=>sz n y).sum/\(l.map λy=>sz n y).sum<=2*((l.flatMap λy=>ap n y).length:Int):=by
  intro l
  induction l with
  | nil=>exact⟨by simp,by simp⟩
  | cons y l ih=>
   have c:=ex n y;simp only[aJ,br,bj,aW];exact⟨by omega,by omega⟩
 have k:=key (p.take k);unfold og;exact⟨by omega,by omega⟩
def LK(n:Nat):Prop:=∀(x:Tm n)(B:Nat)(w:World),In B w n x->B<=w.heap.size->(ap n x).length<=2097152->
 Calls Tryz.prog 67 #[de n x] w λe w'=>e=.returned (.int .i64 (sz n x))/\Below w.heap.size w w'
theorem BB(b d:Int)(s:ByteArray)(a:Option Addr)(len pc:Nat)(w:World)(c:¬b=4):Calls Tryz.prog 67 #[.agg #[.int .i64 b,.int .i64 d,.string s,.slice a len pc]] w λe w'=>e=.returned (.int .i64 0)/\Below w.heap.size w w':=by
 have f:(b !=4)=true:=by simpa using c
 clear c;go_enter Tryz.func67,Tryz.ntmps67;go_wp2_with fail
 go_ret
 exact⟨rfl,(ah _ _).alloc (ag _) _⟩
theorem Eo(n:Nat)(ih:LK n)(M:Int)(s:ByteArray)(a:Option Addr)(pc len:Nat)(p:List (Tm n))(l:Hid (p.length=len))(B:Nat)(w:World)(g:Hid (p=[]\/∃b o,a=some ⟨b,o,none⟩/\b<B/\∀(i:Nat)(y:Tm n),p[i]?=some y->dk w b (o+i*4) n y/\In B w n y))(v:B<=w.heap.size)(D:Hid (1+(p.flatMap λy=>ap n y).length<=2097152)):Calls Tryz.prog 67 #[.agg #[.int .i64 4,.int .i64 M,.string s,.slice a len pc]] w λe w'=> e=.returned (.int .i64 (1+(p.map λy=>1+sz n y).sum))/\Below w.heap.size w w':=by
 have S:len<=2097152:=by have u:=uJ n p;have O:=D.out;rw[<-l.out];omega
 go_enter Tryz.func67,Tryz.ntmps67;go_wp2_with fail;go_loopw [3,16] (λt i wr=>∃k:Nat,∃h:Int,k<=len/\i=.int .i64 k/\t=.int .i64 h/\Hid (h=og n p k)/\Below w.heap.size w wr) (λ_ i _=>len-(intOf i).toNat)
 case atStart=>exact⟨0,1+len,by omega,rfl,rfl,by simp only[Hid,og];rw[l.out];simp,(ah _ _).alloc (ag _) _⟩
 case round=>
  obtain⟨k,h,P,rfl,rfl,x,f⟩:=hrel;have r:=zJ n p k;rw[<-x.out]at r;have I:=D.out;have U:0<=h:=r.1;have V:h<=6291456:=by omega
  clear r;by_cases K:k<len
  ·obtain⟨c,j⟩:∃c,p[k]?=some c:=⟨p[k]'(by rw[l.out];exact K),az _⟩;have G:=ai (BC n p k c j);have H:=jl p c (ax j);have E:(ap n c).length<=2097152:=by omega
   have z:=ex n c;have ab:0<=sz n c:=z.1;have ad:sz n c<=4194304:=by omega
   clear H I z;rcases g.out with g|⟨T,po,rfl,L,g⟩
   ·subst g;simp at j
   obtain⟨m,q⟩:=g k c j;replace m:=m.below (f.mono v) L;replace q:=q.below (f.mono v);clear g j;cases n with
   | zero=>exact m.elim
   | succ n=>
   obtain⟨W,X,Y,Z⟩:=m;have A:B<=wr.heap.size:=au v f.size
   have F:Hid (∀d,Below wr.heap.size wr d->Calls Tryz.prog 67 #[.agg #[.int .i64 c.1.1,.int .i64 c.1.2.1,.string c.1.2.2,.slice c.2.1.1 c.2.2.length c.2.1.2]] d λe w'=>e=.returned (.int .i64 (sz (n+1) c))/\Below d.heap.size d w'):=
    λd u=>ih c B d (q.below (u.mono A)) (au A u.size) E
   clear ih q E;generalize c.2.2.length=aa at*;generalize sz (n+1) c=N at*;have Q:(0:Int)<=(k:Int):=by omega
   have R:(k:Int)<(len:Int):=by omega
   go_wp2_with fail;refine(F.out _ ((ah _ _).alloc (ag _) _)).mono ?_;rintro e d ⟨rfl,C⟩;have J:Below w.heap.size w d:=(f.trans (((ah _ _).alloc (ag _) _).mono f.size)).trans (C.mono (by have:=f.size;simp;omega));clear C;go_wp2_with fail;go_roundw
   case rel=>exact⟨k+1,h+N,by omega,by go_num,by go_num,by simp only[Hid];rw[G.out,<-x.out],J⟩
   case measure=>simp[intOf];omega
  ·go_wp2_with fail
   go_ret
   refine⟨ie ?_,f⟩;rw[x.out,Ep n p k (by rw[l.out];omega)]
theorem vp(n:Nat):LK n:=by
 induction n with
 | zero=>intro m i b g;exact g.elim
 | succ n ih=>
  intro m i b g p l;obtain⟨⟨k,e,d⟩,⟨c,pc⟩,a⟩:=m;obtain⟨⟨_,_,_,s,r⟩,j⟩:=g;simp only at s r j;have q:(ap (n+1) ((k,e,d),(c,pc),a)).length=1+(a.flatMap λh=>ap n h).length:=by simp only[ap,aZ];omega
  rw[q]at l;show Calls Tryz.prog 67 #[.agg #[.int .i64 k,.int .i64 e,.string d,.slice c a.length pc]] b λo t=>o=.returned (.int .i64 (if k=4 then 1+(a.map λh=>1+sz n h).sum else 0))/\Below b.heap.size b t;by_cases f:k=4
  ·subst f;exact Eo n ih e d c pc a.length a rfl i b j p l
  ·rw[if_neg f];exact BB k e d c a.length pc b f
theorem zH(w:World)(k u:Int)(s:ByteArray)(a:Option Addr)(l c:Nat)(i:Bool)(d m:Int)(D:Hid (∀w1,Below w.heap.size w w1->Calls Tryz.prog 65 #[.agg #[.int .i64 k,.int .i64 u,.string s,.slice a l c]] w1 λe w'=>e=.returned (.bool i)/\Below w1.heap.size w1 w'))(C:Hid (∀w1,Below w.heap.size w w1->Calls Tryz.prog 66 #[.agg #[.int .i64 k,.int .i64 u,.string s,.slice a l c]] w1 λe w'=>e=.returned (.int .i64 d)/\Below w1.heap.size w1 w'))(E:Hid (∀w1,Below w.heap.size w w1->Calls Tryz.prog 67 #[.agg #[.int .i64 k,.int .i64 u,.string s,.slice a l c]] w1 λe w'=>e=.returned (.int .i64 m)/\Below w1.heap.size w1 w')):Calls Tryz.prog 42 #[.agg #[.int .i64 k,.int .i64 u,.string s,.slice a l c]] w λe w'=>e=.returned (.int .i64 (if i then if 12<d\/200<m then 2 else 0 else 5))/\Below w.heap.size w w':=by
 generalize A:(if i then if 12<d\/200<m then (2:Int)else 0 else 5)=I;have h:=ai A;clear A;go_enter Tryz.func42,Tryz.ntmps42;go_wp2_with fail;refine(D.out _ ((ah _ _).alloc (ag _) _)).mono ?_;rintro e w1 ⟨rfl,j⟩;have f:Hid (Below w.heap.size w w1/\w.heap.size+1<=w1.heap.size):=⟨((ah _ _).alloc (ag _) _).trans (j.mono (by simp)),by have:=j.size;simpa using this⟩;have b:=aj j;simp only[iN]at b;have r:=(b w.heap.size 0 (by omega)).trans (by simp[go_sem]:_=some (Value.int .i64 k));have t:=(b w.heap.size 1 (by omega)).trans (by simp[go_sem]:_=some (Value.int .i64 u));have v:=(b w.heap.size 2 (by omega)).trans (by simp[go_sem]:_=some (Value.string s));have x:=(b w.heap.size 3 (by omega)).trans (by simp[go_sem]:_=some (Value.slice a l c));clear b j;cases i with
 | false=>
  go_wp2_with fail
  go_ret
  exact⟨ie (by rw[<-h.out];rfl),f.out.1⟩
 | true=>
  go_wp2_with fail;refine(C.out _ f.out.1).mono ?_;rintro e G ⟨rfl,p⟩;have g:Hid (Below w.heap.size w G):=f.out.1.trans (p.mono f.out.1.size);have b:=aj p;have F:=f.out.2;replace r:=(b w.heap.size 0 (by omega)).trans r;replace t:=(b w.heap.size 1 (by omega)).trans t;replace v:=(b w.heap.size 2 (by omega)).trans v;replace x:=(b w.heap.size 3 (by omega)).trans x;clear b p F;by_cases y:12<d
  ·have n:=ai y;go_wp2_with fail
   go_ret
   exact⟨ie (by rw[<-h.out,if_pos trivial,if_pos (ae n.out)]),g.out⟩
  ·have n:=ai y;go_wp2_with fail;refine(E.out _ g.out).mono ?_;rintro e H ⟨rfl,z⟩;have q:Hid (Below w.heap.size w H):=g.out.trans (z.mono g.out.size);clear z;by_cases B:200<m
   ·have o:=ai B;go_wp2_with fail
    go_ret
    exact⟨ie (by rw[<-h.out,if_pos trivial,if_pos (af o.out)]),q.out⟩
   ·have o:=ai B;go_wp2_with fail
    go_ret
    exact⟨ie (by rw[<-h.out,if_pos trivial,if_neg (by have:=n.out;have:=o.out;omega)]),q.out⟩
def wU(n:Nat)(x:Tm n):Int:=if bO n x then if 12<eQ n x\/200<sz n x then 2 else 0 else 5
theorem zG(n:Nat)(x:Tm n)(B:Nat)(w:World)(d:In B w n x)(b:B<=w.heap.size)(f:(ap n x).length<=2097152):Calls Tryz.prog 42 #[de n x] w λe w'=>e=.returned (.int .i64 (wU n x))/\Below w.heap.size w w':=by
 cases n with
 | zero=>exact d.elim
 | succ n=>
 exact zH w x.1.1 x.1.2.1 x.1.2.2 x.2.1.1 x.2.2.length x.2.1.2 (bO (n+1) x) (eQ (n+1) x) (sz (n+1) x)
  (λc a=>Av (n+1) x B c (d.below (a.mono b)) (au b a.size))
  (λc a=>CV (n+1) x B c (d.below (a.mono b)) (au b a.size) f)
  (λc a=>vp (n+1) x B c (d.below (a.mono b)) (au b a.size) f)
theorem km:(n:Nat)->(x:Tm n)->bO n x=(ap n x).all bQ
 | 0,_=>by simp[bO,ap,bQ]
 | n+1,x=>by
  have e:(ap (n+1) x).all bQ=(bQ (bm n x) && (x.2.2.flatMap λy=>ap n y).all bQ):=rfl;rw[e];simp only[bO];cases hg:bQ (bm n x)
  ·rfl
  ·rw[dZ,dZ];by_cases b:x.1.1=4
   ·rw[b];have key:∀l:List (Tm n),(l.all λy=>bO n y)=(l.flatMap λy=>ap n y).all bQ:=by
     intro l
     induction l with
     | nil=>rfl
     | cons y l ih=>simp only[List.all_cons,bj,List.all_append,ih,km n y]
    rw[key];simp
   ·have c:x.2.2=[]:=by
      unfold bQ at hg;simp only[aB,gt,cr]at hg;rcases hg.2 with a|a
      ·exact(b a).elim
      ·have:¬(0:Int)<(x.2.2.length:Int):=by simpa [bm]using a
       exact bL (by omega)
    rw[c];simp
def lV:List Nd->List Int->Int->Int
 | x::l,d::ds,m=>lV l ds (kB x d m)
 | _,_,m=>m
theorem xI(g:Int):(l:List Nd)->(b:List Int)->(m:Int)->l.length=b.length->xH g l b m=if l.all bQ then (if 12<lV l b m\/200<g then 2 else 0)else 5
 | [],_,_,_=>rfl
 | x::l,[],_,a=>by simp at a
 | x::l,d::b,m,a=>by
  have ih:=xI g l b (kB x d m) (by simpa using a);simp only[xH,lV];by_cases f:bQ x=true
  ·have e:(x::l).all bQ=l.all bQ:=by simp[f]
   rw[if_pos f,ih];by_cases c:l.all bQ=true
   ·rw[if_pos c,if_pos (e.trans c)];rfl
   ·rw[if_neg c,if_neg (λa=>c (e.symm.trans a))]
  ·rw[if_neg f,if_neg (λa=>f (bT.1 a x (by simp)))]
theorem pn:(l r:List Nd)->(a es:List Int)->(m:Int)->l.length=a.length->lV (l++r) (a++es) m=lV r es (lV l a m)
 | [],_,[],_,_,_=>rfl
 | [],_,_::_,_,_,h=>by simp at h
 | _::_,_,[],_,_,h=>by simp at h
 | x::l,r,d::a,es,m,h=>by
  simp only[fB,lV];exact pn l r a es _ (by simpa using h)
theorem yf{n:Nat}(c:Int):(p:List (Tm n))->(m e:Int)->p.foldl (λm y=>max m (c+eQ n y)) (max m (c+e))=max m (c+p.foldl (λm y=>max m (eQ n y)) e)
 | [],_,_=>rfl
 | y::p,m,e=>by
  simp only[iF];have a:max (max m (c+e)) (c+eQ n y)=max m (c+max e (eQ n y)):=by omega
  rw[a];exact yf c p m (max e (eQ n y))
theorem xS:(n:Nat)->(x:Tm n)->(d m:Int)->(∀a∈ap n x,bQ a=true)->d<=m->lV (ap n x) (my n x d) m=max m (d+eQ n x)
 | 0,x,_,_,h,_=>by
  have:=h ((0,0,.empty),(none,0,0)) (by simp[ap]);rcases jr _ this with g|g|g|g|g|⟨g,_⟩<;>simp at g
 | n+1,x,d,m,h,k=>by
  have f:=h (bm n x) (by simp[ap,bm]);have key:∀(p:List (Tm n))(m:Int),(∀y∈p,y∈x.2.2)->d+1<=m->lV (p.flatMap λy=>ap n y) (p.flatMap λy=>my n y (d+1)) m=p.foldl (λm y=>max m (d+1+eQ n y)) m:=by
   intro p
   induction p with
   | nil=>intro m _ _;rfl
   | cons y p ih=>
    intro m l k;simp only[bj,iF];rw[pn _ _ _ _ _ (ji n y (d+1)).symm,xS n y (d+1) m (λa q=>h a (nt (l y (by simp)) q)) k];exact ih _ (λu t=>l u (by simp[t])) (by omega)
  have o:lV (ap (n+1) x) (my (n+1) x d) m=lV (x.2.2.flatMap λy=>ap n y) (x.2.2.flatMap λy=>my n y (d+1)) (kB (bm n x) d m):=rfl;rw[o];simp only[eQ];by_cases b:x.1.1=4
  ·rw[if_pos b];have c:kB (bm n x) d m=max m (d+1+0):=by
    unfold kB bm;by_cases j:m<d+1
    ·rw[if_pos ⟨b,j⟩];omega
    ·rw[if_neg (λi=>j i.2)];omega
   rw[c,key x.2.2 _ (λ_ s=>s) (by omega),yf];omega
  ·rw[if_neg b];have r:x.2.2=[]:=by
    unfold bQ at f;simp only[aB,gt,cr]at f;rcases f.2 with e|e
    ·exact(b e).elim
    ·have:¬(0:Int)<(x.2.2.length:Int):=by simpa [bm]using e
     exact bL (by omega)
   have c:kB (bm n x) d m=m:=CU _ (λi=>b i.1);rw[r,c];simp only[List.flatMap_nil,lV];omega
theorem iv(n:Nat)(x:Tm n):wU n x=bv n x:=by
 unfold wU bv;rw[xI _ _ _ _ (ji n x 0).symm,<-km n x];by_cases a:bO n x=true
 ·rw[if_pos a,if_pos a];have d:∀b∈ap n x,bQ b=true:=by
   rw[km n x]at a;exact λb c=>bT.1 a b c
  have e:=fq n x;rw[xS n x 0 0 d (by omega)];have:max (0:Int) (0+eQ n x)=eQ n x:=by omega
  rw[this]
 ·rw[if_neg a,if_neg a]
theorem dJ(n:Nat)(x:Tm n)(B:Nat)(w:World)(c:In B w n x)(a:B<=w.heap.size)(b:(ap n x).length<=2097152):Calls Tryz.prog 42 #[de n x] w λe w'=>e=.returned (.int .i64 (bv n x))/\Below w.heap.size w w':=by
 rw[<-iv];exact zG n x B w c a b
end Go.Proofs.YtmbjgiaebneodaaGreat
