/- What is proved here: plain facts and contracts that the claimed theorem stands on. No condition but those that each names. -/
import Derived.Test.YtnidfceinoiboaaGreatG04
import Derived.Deep.RegionHeld3
import Derived.Deep.DrawnRows
namespace Go.Proofs.YtnidfceinoiboaaGreat
open Go.RowKit
set_option maxHeartbeats 400000
def ch(P:Nat->Prop):(n:Nat)->Tm n->Prop
 | 0,_=>False
 | n+1,x=>x.2.2=[]\/∃b o,x.2.1.1=some ⟨b,o,none⟩/\P b/\∀(i:Nat)(y:Tm n),x.2.2[i]?=some y->ch P n y
theorem ch.mono{P Q:Nat->Prop}(a:∀b,P b->Q b):{n:Nat}->{x:Tm n}->ch P n x->ch Q n x
 | 0,_,k=>k
 | _+1,_,k=>by
  rcases k with k|⟨b,o,e,c,k⟩
  ·exact ae k
  ·exact af ⟨b,o,e,a b c,λi y d=>(k i y d).mono a⟩
theorem bi{w w':World}{b:Nat}(a:w'.heap[b]?=w.heap[b]?)(o:Nat):w'.cell? ⟨b,o,none⟩=w.cell? ⟨b,o,none⟩:=by
 simp[World.cell?,a]
theorem dr.block{w w':World}{b o:Nat}(a:w'.heap[b]?=w.heap[b]?):{n:Nat}->{x:Tm n}->dr w b o n x->dr w' b o n x
 | 0,_,k=>k
 | _+1,_,k=>by
  obtain⟨c,d,e,f⟩:=k;exact⟨(bi a _).trans c,(bi a _).trans d,(bi a _).trans e,(bi a _).trans f⟩
theorem In.off{P:Nat->Prop}{w w':World}(f:∀b,P b->w'.heap[b]?=w.heap[b]?){B:Nat}:{n:Nat}->{x:Tm n}->ch P n x->In B w n x->In B w' n x
 | 0,_,_,k=>k
 | _+1,_,p,k=>by
  obtain⟨m,a⟩:=k;refine⟨m,?_⟩;rcases a with a|⟨b,o,e,j,a⟩
  ·exact ae a
  ·rcases p with p|⟨q,r,c,l,p⟩
   ·exact ae p
   ·rw[e]at c;injection c with c;injection c with g h;subst g h;exact af ⟨b,o,e,j,λi y d=>⟨(a i y d).1.block (f b l),(a i y d).2.off f (p i y d)⟩⟩
theorem In.offB{P:Nat->Prop}{B:Nat}{w:World}:{n:Nat}->{x:Tm n}->ch P n x->In B w n x->ch (λb=>P b/\b<B) n x
 | 0,_,p,_=>p
 | _+1,_,p,k=>by
  obtain⟨_,a⟩:=k;rcases p with p|⟨b,o,e,h,p⟩
  ·exact ae p
  ·rcases a with a|⟨l,m,c,j,a⟩
   ·exact ae a
   ·rw[e]at c;injection c with c;injection c with f g;subst f g;exact af ⟨b,o,e,⟨h,j⟩,λi y d=>In.offB (p i y d) (a i y d).2⟩
def iv:(n:Nat)->Tm n->Nd
 | 0,_=>((0,0,⟨#[]⟩),(none,0,0))
 | n+1,x=>bm n x
def rz(a:An):Nd:=iv a.1 a.2
def fz(l:List An):List Value:=cO (l.map rz)
theorem j8(l:List An):(fz l).length=l.length*4:=by simp[fz,mU]
theorem xO(l:List An):∀u∈fz l,u.oneCell'=true:=rA _
def lR(base:Nat)(g c:Nat)(b:List An)(w:World):Prop:=w.ownsRow base 30 4 (.slice (some ⟨g,0,none⟩) b.length c) b.length (fz b)
theorem lR.cells{base g c:Nat}{b:List An}{w:World}(a:lR base g c b w)(i:Nat)(y:An)(d:b[i]?=some y):w.cell? ⟨g,i*4,none⟩=some (.int .i64 (rz y).1.1)/\w.cell? ⟨g,i*4+1,none⟩=some (.int .i64 (rz y).1.2.1)/\w.cell? ⟨g,i*4+2,none⟩=some (.string (rz y).1.2.2)/\w.cell? ⟨g,i*4+3,none⟩=some (.slice (rz y).2.1 (rz y).2.2.1 (rz y).2.2.2):=
 Gk (l:=b.map rz) a i (rz y) (by simp[d])
theorem lR.lt{base g c:Nat}{b:List An}{w:World}(a:lR base g c b w):base<=g/\g<w.heap.size:=World.ownsRow.lt a g rfl
theorem lR.kept{base g c:Nat}{b:List An}{w w':World}(d:lR base g c b w){row:Option Nat}(e:w.grownBy w' row)(f:row≠some g):lR base g c b w':=
 od d e (af λa=>f a.symm)
theorem cu{w w':World}(a:Below w.heap.size w w')(row:Option Nat):w.grownBy w' row:=⟨a.os,a.tape,a.output,a.size,λk b _=>a.block k b⟩
theorem lR.below{base g c:Nat}{b:List An}{w w':World}(a:lR base g c b w)(d:Below w.heap.size w w'):lR base g c b w':=a.kept (cu d none) (by simp)
theorem mP{w w':World}{g B:Nat}(a:w.grownBy w' (some g))(b:B<=g)(c:g<w.heap.size):Below B w w':=⟨a.os,a.tape,a.output,a.size,λk d=>a.block k (by omega) (by simp;omega)⟩
theorem kI{w w1 w2:World}{row:Option Nat}(a:w.grownBy w1 row)(k:w1.grownBy w2 row):w.grownBy w2 row:=
 ⟨k.os.trans a.os,k.tape.trans a.tape,k.output.trans a.output,au a.size k.size,λb c d=>(k.block b (aL c a.size) d).trans (a.block b c d)⟩
theorem lR.free{base g c:Nat}{b:List An}{w:World}(e:lR base g c b w)(j:Nat):w.frozen? ⟨g,j,none⟩=false:=by
 obtain⟨n,d⟩:=e;rcases d with⟨d,_⟩|⟨m,cap,i,h,q,f,o,r,s,p⟩
 ·simp at d
 ·injection h with a k l;injection a with a;injection a with a _;subst a;simp[World.frozen?,f]
def cP(w:World)(g o:Nat)(v0 v1 v2 v3:Value):World:=(((w.setCell ⟨g,o,none⟩ v0).setCell ⟨g,o+1,none⟩ v1).setCell ⟨g,o+2,none⟩ v2).setCell ⟨g,o+3,none⟩ v3
def iH(w:World)(g o:Nat)(x:Nd):World:=cP w g o (.int .i64 x.1.1) (.int .i64 x.1.2.1) (.string x.1.2.2) (.slice x.2.1 x.2.2.1 x.2.2.2)
theorem iz{w:World}{base e size g L c:Nat}{xs:List Value}(h:w.ownsRow base e size (.slice (some ⟨g,0,none⟩) L c) L xs)(j:Nat)(u:Value):(w.setCell ⟨g,j,none⟩ u).ownsRow base e size (.slice (some ⟨g,0,none⟩) L c) L (xs.set j u):=by
 obtain⟨i,b⟩:=h;refine⟨by simpa using i,?_⟩;rcases b with⟨b,_⟩|⟨s,cap,d,p,m,n,k,o,q,l⟩
 ·simp at b
 ·injection p with a r f;injection a with a;injection a with a _;subst a f;refine af ⟨g,c,d.setIfInBounds j u,rfl,m,?_,k,o,by simpa using q,?_⟩
  ·simp[World.setCell,bJ,n]
  ·rw[<-l];simp[List.take_set]
theorem rB:(l:List Nd)->(i:Nat)->(x:Nd)->i<l.length-> ((((cO l).set (i*4) (.int .i64 x.1.1)).set (i*4+1) (.int .i64 x.1.2.1)).set (i*4+2) (.string x.1.2.2)).set (i*4+3) (.slice x.2.1 x.2.2.1 x.2.2.2)=cO (l.set i x)
 | [],i,x,h=>by simp at h
 | y::l,0,x,_=>by simp[cO,vj]
 | y::l,i+1,x,h=>by
  have ih:=rB l i x (by simpa using h);have e:cO (y::l)=vj y++cO l:=rfl;have b:cO ((y::l).set (i+1) x)=vj y++cO (l.set i x):=rfl;have a:(vj y).length=4:=rfl;rw[e,b,<-ih];rw[gL _ _ (by rw[a];omega),gL _ _ (by rw[a];omega),gL _ _ (by rw[a];omega),gL _ _ (by rw[a];omega),a];rw[show (i+1)*4-4=i*4 by omega,show (i+1)*4+1-4=i*4+1 by omega,show (i+1)*4+2-4=i*4+2 by omega,show (i+1)*4+3-4=i*4+3 by omega]
theorem lR.put{base g c:Nat}{b:List An}{w:World}(d:lR base g c b w)(i:Nat)(t:An)(e:i<b.length):lR base g c (b.set i t) (iH w g (i*4) (rz t)):=by
 have a:=iz (iz (iz (iz d (i*4) (.int .i64 (rz t).1.1)) (i*4+1) (.int .i64 (rz t).1.2.1)) (i*4+2) (.string (rz t).1.2.2)) (i*4+3) (.slice (rz t).2.1 (rz t).2.2.1 (rz t).2.2.2);unfold fz at a;rw[rB (b.map rz) i (rz t) (by simpa using e)]at a;unfold lR fz;rw[List.map_set,List.length_set];exact a
theorem aO{w:World}{g b o:Nat}(c:b≠g)(v0 v1 v2 v3:Value):(cP w g o v0 v1 v2 v3).heap[b]?=w.heap[b]? :=by
 have d:g≠b:=λa=>c a.symm;simp[cP,World.setCell,bJ,d]
theorem aZ{w:World}{g o:Nat}(v0 v1 v2 v3:Value):(cP w g o v0 v1 v2 v3).heap.size=w.heap.size:=by simp[cP,World.setCell]
theorem Bt{w:World}{g o:Nat}(v0 v1 v2 v3:Value):w.grownBy (cP w g o v0 v1 v2 v3) (some g):=
 ⟨rfl,rfl,rfl,dp (aZ _ _ _ _).symm,λk _ b=>aO (λa=>b (by rw[a])) _ _ _ _⟩
theorem Ch{w w':World}{v0 v1 v2 v3:Value}{t:TypeId}(c:Below (w.alloc (.cells #[v0,v1,v2,v3] t)).heap.size (w.alloc (.cells #[v0,v1,v2,v3] t)) w'):(w'.cell? ⟨w.heap.size,0,none⟩=some v0/\w'.cell? ⟨w.heap.size,1,none⟩=some v1/\w'.cell? ⟨w.heap.size,2,none⟩=some v2/\w'.cell? ⟨w.heap.size,3,none⟩=some v3)/\ (w'.frozen? ⟨w.heap.size,0,none⟩=false/\w'.frozen? ⟨w.heap.size,1,none⟩=false/\w'.frozen? ⟨w.heap.size,2,none⟩=false/\w'.frozen? ⟨w.heap.size,3,none⟩=false):=by
 have a:=λo=>c.cell (p:=⟨w.heap.size,o,none⟩) (by simp);have b:=λo=>c.frozen (p:=⟨w.heap.size,o,none⟩) (by simp);exact⟨⟨(a 0).trans (by simp[go_sem]),(a 1).trans (by simp[go_sem]),(a 2).trans (by simp[go_sem]),(a 3).trans (by simp[go_sem])⟩,(b 0).trans (by simp[go_sem]),(b 1).trans (by simp[go_sem]),(b 2).trans (by simp[go_sem]),(b 3).trans (by simp[go_sem])⟩
theorem mH{w1 w2:World}{q:Nat}{c d e f:Value}(b:q<w1.heap.size)(l:Below w1.heap.size w1 w2)(k:w1.cell? ⟨q,0,none⟩=some c/\w1.cell? ⟨q,1,none⟩=some d/\w1.cell? ⟨q,2,none⟩=some e/\w1.cell? ⟨q,3,none⟩=some f):w2.cell? ⟨q,0,none⟩=some c/\w2.cell? ⟨q,1,none⟩=some d/\w2.cell? ⟨q,2,none⟩=some e/\w2.cell? ⟨q,3,none⟩=some f:=by
 obtain⟨g,h,i,j⟩:=k;have a:=aj l;exact⟨(a _ _ b).trans g,(a _ _ b).trans h,(a _ _ b).trans i,(a _ _ b).trans j⟩
def eu(base g c:Nat)(o:Option (List An))(w:World)(e:Ending)(w':World):Prop:=
 e=.returned (.bool o.isSome)/\w.grownBy w' (some g)/\∀b,o=some b->lR base g c b w'
def Ap(B:Nat)(w:World)(b:List An):Prop:=b.length=4/\∀y∈b,CX B w y/\aB y
theorem CX.below{B:Nat}{w w':World}(a:Below B w w'){x:An}(k:CX B w x):CX B w' x:=In.below a k
theorem Ap.below{B:Nat}{w w':World}(c:Below B w w'){b:List An}(k:Ap B w b):Ap B w' b:=⟨k.1,λy a=>⟨(k.2 y a).1.below c,(k.2 y a).2⟩⟩
theorem Ap.fit{B:Nat}{w:World}{b a:List An}(k:Ap B w b){n m:Nat}{p:Tm n}{t:Tm m}(f:In B w m t)(e:aB ⟨m,t⟩)(d:fY n p m t b=some a):Ap B w a:=
 mO (λc=>CX B w c/\aB c) (D5 (Gl B w) aU) n p m t ⟨f,e⟩ b a k d
def J4(n:Nat):Prop:=∀(p:Tm n)(m:Nat)(t:Tm m)(b:List An)(base g c B:Nat)(w:World),In B w n p->In B w m t->aB ⟨n,p⟩->aB ⟨m,t⟩->Ap B w b->B<=base->lR base g c b w->
 Calls Tryz.prog 146 #[.slice (some ⟨g,0,none⟩) 4 c,dg n p,dg m t] w (eu base g c (fY n p m t b) w)
theorem sS(x y:Int)(w:World):Calls Tryz.prog 164 #[.int .i64 x,.int .i64 y] w λe w'=>e=.returned (.int .i64 (mJ x y))/\w'=w:=by
 go_enter Tryz.func164,Tryz.ntmps164;go_wp2
 all_goals go_ret
 all_goals refine⟨iw ?_,rfl⟩
 all_goals unfold mJ
 all_goals (repeat' split)<;>omega
theorem Fq(x y:ByteArray)(w:World):Calls Tryz.prog 165 #[.string x,.string y] w λe w'=>e=.returned (.int .i64 (ut x y))/\w'=w:=by
 go_enter Tryz.func165,Tryz.ntmps165;go_wp2
 all_goals go_ret
 all_goals refine⟨iw ?_,rfl⟩
 all_goals unfold ut
 all_goals simp[*]
attribute [local go_sem ↓] Go.wp_at_zero Go.wp_at_succ
def F5(n:Nat):Prop:=∀(x:Tm n)(m:Nat)(y:Tm m)(B:Nat)(w:World),In B w n x->In B w m y->B<=w.heap.size->
 Calls Tryz.prog 159 #[dg n x,dg m y] w λe w'=>e=.returned (.int .i64 (vo n x m y))/\Below w.heap.size w w'
theorem Ik(p q:Nat)(a c:Option Addr)(pc d:Nat)(w:World)(_hpc:p<=9223372036854775807)(_hqc:q<=9223372036854775807)(b:((p:Int)==(q:Int))=false):Calls Tryz.prog 166 #[.slice a p pc,.slice c q d] w λe w'=>e=.returned (.int .i64 (mJ p q))/\w'=w:=by
 have f:((p:Int) !=(q:Int))=true:=by simpa using b
 go_enter Tryz.func166,Tryz.ntmps166;go_wp2_with (go_at_call 164;refine(sS _ _ _).mono ?_;rintro e w' ⟨rfl,rfl⟩)
 go_ret
 exact⟨rfl,rfl⟩
theorem Ij(n m:Nat)(ih:F5 n)(p:List (Tm n))(q:List (Tm m))(len:Nat)(M:Hid (p.length=len))(V:Hid (q.length=len))(g po h l pc X:Nat)(B:Nat)(w:World)(ae:len<=9223372036854775807)(T:g<B)(U:h<B)(L:∀(i:Nat)(y:Tm n),p[i]?=some y->dr w g (po+i*4) n y/\In B w n y)(N:∀(i:Nat)(y:Tm m),q[i]?=some y->dr w h (l+i*4) m y/\In B w m y)(o:B<=w.heap.size):Calls Tryz.prog 166 #[.slice (some ⟨g,po,none⟩) len pc,.slice (some ⟨h,l,none⟩) len X] w λe w'=> e=.returned (.int .i64 (oo (λa b=>vo n a m b) p q))/\Below w.heap.size w w':=by
 go_enter Tryz.func166,Tryz.ntmps166;go_wp2_with fail;go_loopw [19] (λi wr=>∃k:Nat,k<=len/\i=.int .i64 k/\Below w.heap.size w wr/\Hid (oo (λa b=>vo n a m b) (p.drop k) (q.drop k)=oo (λa b=>vo n a m b) p q)) (λi _=>len-(intOf i).toNat)
 case atStart=>exact⟨0,by omega,rfl,ah _ _,rfl⟩
 case round=>
  obtain⟨k,aa,rfl,f,z⟩:=hrel;by_cases K:k<len
  ·obtain⟨c,A⟩:∃c,p[k]?=some c:=⟨p[k]'(by rw[M.out];exact K),aA _⟩;obtain⟨y,C⟩:∃y,q[k]?=some y:=⟨q[k]'(by rw[V.out];exact K),aA _⟩;obtain⟨s,t⟩:=L k c A;obtain⟨u,v⟩:=N k y C;have E:Hid (oo (λa b=>vo n a m b) (p.drop k) (q.drop k)=if vo n c m y=0 then oo (λa b=>vo n a m b) (p.drop (k+1)) (q.drop (k+1))else vo n c m y):=DX (λa b=>vo n a m b) p q k c y A C;replace s:=s.below (f.mono o) T;replace u:=u.below (f.mono o) U;replace t:=t.below (f.mono o);replace v:=v.below (f.mono o);clear L N A C;cases n with
   | zero=>exact s.elim
   | succ n=>
   cases m with
   | zero=>exact u.elim
   | succ m=>
   obtain⟨ak,al,am,an⟩:=s;obtain⟨y0,y1,y2,ao⟩:=u;have J:∀(d:World),In B d (n+1) c->In B d (m+1) y->B<=d.heap.size->Calls Tryz.prog 159 #[.agg #[.int .i64 c.1.1,.int .i64 c.1.2.1,.string c.1.2.2,.slice c.2.1.1 c.2.2.length c.2.1.2],.agg #[.int .i64 y.1.1,.int .i64 y.1.2.1,.string y.1.2.2,.slice y.2.1.1 y.2.2.length y.2.1.2]] d λe w'=>e=.returned (.int .i64 (vo (n+1) c (m+1) y))/\Below d.heap.size d w':=λd P Q R=>ih c (m+1) y B d P Q R;have D:=ai J;clear J ih;have F:=ai t;have G:=ai v;clear t v;generalize vo (n+1) c (m+1) y=r at*;generalize c.2.2.length=Y at*;generalize y.2.2.length=yl at*;have ab:(0:Int)<=(k:Int):=by omega
   have ad:(k:Int)<(len:Int):=by omega
   have S:B<=wr.heap.size:=au o f.size;have O:=ai (D.out wr.drew (F.out.below (ah _ _).drew) (G.out.below (ah _ _).drew) S);have af:g<wr.heap.size:=by omega
   have ag:h<wr.heap.size:=by omega
   clear D F G;go_wp2_with fail
   go_region_held3 (λw'=>w'.cell? ⟨g,po+k*4,none⟩=some (.int .i64 c.1.1)/\w'.cell? ⟨g,po+k*4+1,none⟩=some (.int .i64 c.1.2.1)/\w'.cell? ⟨g,po+k*4+2,none⟩=some (.string c.1.2.2)/\w'.cell? ⟨g,po+k*4+3,none⟩=some (.slice c.2.1.1 Y c.2.1.2)
       /\w'.cell? ⟨h,l+k*4,none⟩=some (.int .i64 y.1.1)/\w'.cell? ⟨h,l+k*4+1,none⟩=some (.int .i64 y.1.2.1)/\w'.cell? ⟨h,l+k*4+2,none⟩=some (.string y.1.2.2)/\w'.cell? ⟨h,l+k*4+3,none⟩=some (.slice y.2.1.1 yl y.2.1.2))
    (go_keep) ((go_at_call 159;refine O.out.mono ?_;rintro e d ⟨rfl,H⟩;have Z:=aj (co H)))
   have I:Below w.heap.size w d:=f.trans ((co H).mono f.size);by_cases j:r=0
   ·have x:Hid (r=0):=j;have W:(r !=0)=false:=by rw[j];rfl
    clear j;go_wp2_with fail;go_roundw
    case rel=>exact⟨k+1,by omega,by go_num,I,by rw[<-z.out,E.out,if_pos x.out];rfl⟩
    case measure=>simp[intOf];omega
   ·have x:Hid (¬r=0):=j;have W:(r !=0)=true:=by simpa using j
    clear j;go_wp2_with fail
    go_ret
    exact⟨iw (by rw[<-z.out,E.out,if_neg x.out]),I⟩
  ·go_wp2_with fail
   go_ret
   refine⟨iw ?_,f⟩;rw[<-z.out,fJ (by rw[M.out];omega)];rfl
theorem xS(n m:Nat)(a c:Option Addr)(pc d:Nat)(w:World):Calls Tryz.prog 166 #[.slice a ([]:List (Tm n)).length pc,.slice c ([]:List (Tm m)).length d] w λe w'=>e=.returned (.int .i64 (oo (λa b=>vo n a m b) [] []))/\Below w.heap.size w w':=by
 show Calls Tryz.prog 166 #[.slice a 0 pc,.slice c 0 d] w λe w'=>e=.returned (.int .i64 0)/\Below w.heap.size w w';go_enter Tryz.func166,Tryz.ntmps166;go_wp2_with fail
 go_loop [19] (λf=>f=.int .i64 0) (λ_=>0)
 case atStart=>rfl
 case round=>
  obtain rfl:=hrel;go_wp2_with fail
  go_ret
  exact⟨rfl,ah _ _⟩
theorem Bl(w:World)(k b u h:Int)(s g:ByteArray)(a c:Option Addr)(pl f pc d:Nat)(e:¬k=b):Calls Tryz.prog 159 #[.agg #[.int .i64 k,.int .i64 u,.string s,.slice a pl pc],.agg #[.int .i64 b,.int .i64 h,.string g,.slice c f d]] w λe w'=>e=.returned (.int .i64 (mJ k b))/\Below w.heap.size w w':=by
 have i:(k !=b)=true:=by simpa using e
 clear e;go_enter Tryz.func159,Tryz.ntmps159;go_wp2_with (go_at_call 164;refine(sS _ _ _).mono ?_;rintro e w' ⟨rfl,rfl⟩)
 go_ret
 exact⟨rfl,((ah _ _).alloc (ag _) _).alloc (by simp) _⟩
theorem qI(w:World)(k u d:Int)(s c:ByteArray)(a f:Option Addr)(pl h pc g:Nat)(r:Int)(b:k=1\/k=3\/k=5):Calls Tryz.prog 159 #[.agg #[.int .i64 k,.int .i64 u,.string s,.slice a pl pc],.agg #[.int .i64 k,.int .i64 d,.string c,.slice f h g]] w λe w'=>e=.returned (.int .i64 (if k=1\/k=3\/k=5 then mJ u d else if k=2 then ut s c else if k=4 then r else 0))/\Below w.heap.size w w':=by
 rw[if_pos b];rcases b with rfl|rfl|rfl
 all_goals
  go_enter Tryz.func159,Tryz.ntmps159;go_wp2_with (go_at_call 164;refine(sS _ _ _).mono ?_;rintro e w' ⟨rfl,rfl⟩)
  go_ret
  exact⟨rfl,((ah _ _).alloc (ag _) _).alloc (by simp) _⟩
theorem DZ(w:World)(u g:Int)(s b:ByteArray)(a c:Option Addr)(pl f pc d:Nat):Calls Tryz.prog 159 #[.agg #[.int .i64 2,.int .i64 u,.string s,.slice a pl pc],.agg #[.int .i64 2,.int .i64 g,.string b,.slice c f d]] w λe w'=>e=.returned (.int .i64 (ut s b))/\Below w.heap.size w w':=by
 go_enter Tryz.func159,Tryz.ntmps159;go_wp2_with (go_at_call 165;refine(Fq _ _ _).mono ?_;rintro e w' ⟨rfl,rfl⟩)
 go_ret
 exact⟨rfl,((ah _ _).alloc (ag _) _).alloc (by simp) _⟩
theorem Bk(w:World)(k u m:Int)(s l:ByteArray)(a h:Option Addr)(pl j pc i:Nat)(b:¬k=1)(c:¬k=2)(d:¬k=3)(f:¬k=4)(g:¬k=5):Calls Tryz.prog 159 #[.agg #[.int .i64 k,.int .i64 u,.string s,.slice a pl pc],.agg #[.int .i64 k,.int .i64 m,.string l,.slice h j i]] w λe w'=>e=.returned (.int .i64 0)/\Below w.heap.size w w':=by
 have n:(k==1)=false:=by simpa using b
 have o:(k==2)=false:=by simpa using c
 have p:(k==3)=false:=by simpa using d
 have q:(k==4)=false:=by simpa using f
 have r:(k==5)=false:=by simpa using g
 clear b c d f g;go_enter Tryz.func159,Tryz.ntmps159;go_wp2_with fail
 go_ret
 exact⟨rfl,((ah _ _).alloc (ag _) _).alloc (by simp) _⟩
theorem D0(w:World)(u j:Int)(s i:ByteArray)(a b:Option Addr)(pl f pc d:Nat)(r:Int)(c:∀w1:World,Below w.heap.size w w1->Calls Tryz.prog 166 #[.slice a pl pc,.slice b f d] w1 λe w'=>e=.returned (.int .i64 r)/\Below w1.heap.size w1 w'):Calls Tryz.prog 159 #[.agg #[.int .i64 4,.int .i64 u,.string s,.slice a pl pc],.agg #[.int .i64 4,.int .i64 j,.string i,.slice b f d]] w λe w'=>e=.returned (.int .i64 r)/\Below w.heap.size w w':=by
 have g:=ai c;clear c;go_enter Tryz.func159,Tryz.ntmps159;go_wp2_with fail;refine(g.out _ (((ah _ _).alloc (ag _) _).alloc (by simp) _)).mono ?_;rintro e w' ⟨rfl,h⟩;go_wp2_with fail
 go_ret
 exact⟨rfl,(((ah _ _).alloc (ag _) _).alloc (by simp) _).trans (h.mono (by simp;omega))⟩
theorem DY(n:Nat):F5 n:=by
 induction n with
 | zero=>intro U h t H f G;exact G.elim
 | succ n ih=>
  intro U h t H f G s w;cases h with
  | zero=>exact s.elim
  | succ h=>
  obtain⟨⟨k,l,i⟩,⟨a,pc⟩,c⟩:=U;obtain⟨⟨z,m,j⟩,⟨g,e⟩,d⟩:=t;obtain⟨⟨M,Y,S,P,E⟩,q⟩:=G;obtain⟨⟨N,Z,T,R,F⟩,r⟩:=s;simp only at M Y S P E q N Z T R F r
  show Calls Tryz.prog 159 #[.agg #[.int .i64 k,.int .i64 l,.string i,.slice a c.length pc],.agg #[.int .i64 z,.int .i64 m,.string j,.slice g d.length e]] f λp B=>p=.returned (.int .i64 (if k=z then
   if k=1\/k=3\/k=5 then mJ l m else if k=2 then ut i j else if k=4 then if c.length=d.length then oo (λa b=>vo n a h b) c d else mJ c.length d.length
   else 0 else mJ k z))/\Below f.heap.size f B
  have V:∀o:World,Below f.heap.size f o->Calls Tryz.prog 166 #[.slice a c.length pc,.slice g d.length e] o λp B=>p=.returned (.int .i64 (if c.length=d.length then oo (λa b=>vo n a h b) c d else mJ c.length d.length))/\Below o.heap.size o B:=by
   intro o x;unfold maxLen at E F;by_cases u:c.length=d.length
   ·rw[if_pos u];rcases q with q|⟨aa,po,rfl,O,q⟩
    ·subst q;have X:d=[]:=bK u.symm;subst X;exact xS n h a g pc e o
    ·rcases r with r|⟨ab,ad,rfl,Q,r⟩
     ·subst r;have W:c=[]:=bK u;subst W;exact xS n h _ g pc e o
     ·have L:=Ij n h ih c d c.length rfl u.symm aa po ab ad pc e H o (by omega) O Q (λy t s=>⟨(q y t s).1.below (x.mono w) O,(q y t s).2.below (x.mono w)⟩)
        (λy t s=>⟨(r y t s).1.below (x.mono w) Q,(r y t s).2.below (x.mono w)⟩) (au w x.size)
      rw[u]at L;rw[u];exact L
   ·rw[if_neg u];refine(Ik c.length d.length a g pc e o (by omega) (by omega) (by simp;omega)).mono ?_;rintro p B ⟨rfl,rfl⟩;exact⟨rfl,ah _ _⟩
  generalize (if c.length=d.length then oo (λa b=>vo n a h b) c d else mJ c.length d.length)=A at*;clear q r ih P E R F S T w;generalize c.length=pl at*;generalize d.length=v at*;obtain⟨ag,aj⟩:=M;obtain⟨ai,ak⟩:=N;by_cases p:k=z
  ·subst p;rw[if_pos rfl];by_cases I:k=1
   ·subst I;exact qI f 1 l m i j a g pl v pc e A (ae rfl)
   by_cases J:k=3
   ·subst J;exact qI f 3 l m i j a g pl v pc e A (af (ae rfl))
   by_cases K:k=5
   ·subst K;exact qI f 5 l m i j a g pl v pc e A (af (af rfl))
   rw[if_neg (by omega)];by_cases C:k=2
   ·subst C;exact DZ f l m i j a g pl v pc e
   rw[if_neg C];by_cases D:k=4
   ·subst D;exact D0 f l m i j a g pl v pc e A V
   rw[if_neg D];exact Bk f k l m i j a g pl v pc e I C J D K
  ·rw[if_neg p];exact Bl f k z l m i j a g pl v pc e p
theorem iD(k u:Int)(s:ByteArray)(a:Option Addr)(l c:Nat)(w:World):Calls Tryz.prog 156 #[.agg #[.int .i64 k,.int .i64 u,.string s,.slice a l c]] w λe w'=>e=.returned (.bool (!(k==6)))/\Below w.heap.size w w':=by
 cases h:k==6
 all_goals
  go_enter Tryz.func156,Tryz.ntmps156;go_wp2_with fail
  go_ret
  exact⟨eA (by simp[bne,h]),(ah _ _).alloc (ag _) _⟩
theorem zr(x:An)(y:An)(B:Nat)(w:World)(d:CX B w x)(f:CX B w y)(b:B<=w.heap.size)(g:aB x)(h:aB y):Calls Tryz.prog 159 #[dg x.1 x.2,dg y.1 y.2] w λe w'=>∃r,e=.returned (.int .i64 r)/\Hid ((r==0)=dR x y)/\Below w.heap.size w w':=by
 refine(DY x.1 x.2 y.1 y.2 B w d f b).mono ?_;rintro e w' ⟨rfl,c⟩;refine⟨_,rfl,?_,c⟩;have a:=zq x.1 x.2 y.1 y.2 g h;unfold Hid dR;cases hs:aw x.1 x.2 y.1 y.2
 ·rw[hs]at a;simp only[lH,iff_false]at a;simpa using a
 ·rw[hs]at a;simp only[iff_true]at a;simpa using a
theorem FL(b:List An)(base g c B:Nat)(w:World)(k:Nat)(K:k<4)(m:Nat)(t:Tm (m+1))(y:Ap B w b)(M:In B w (m+1) t)(L:aB ⟨m+1,t⟩)(Y:B<=base)(H:lR base g c b w):Calls Tryz.prog 157 #[.slice (some ⟨g,0,none⟩) 4 c,.int .i64 k,.agg #[.int .i64 t.1.1,.int .i64 t.1.2.1,.string t.1.2.2,.slice t.2.1.1 t.2.2.length t.2.1.2]] w (eu base g c (sZ b k ⟨m+1,t⟩) w):=by
 obtain⟨a,v⟩:∃a,b[k]?=some a:=⟨b[k]'(by rw[y.1];exact K),aA _⟩;obtain⟨E,N⟩:=y.2 a (ay v);obtain⟨n,a⟩:=a;cases n with
 | zero=>exact E.elim
 | succ n=>
 have D:Hid (sZ b k ⟨m+1,t⟩=if a.1.1=6 then some (b.set k ⟨m+1,t⟩)else if dR ⟨n+1,a⟩ ⟨m+1,t⟩then some b else none):=by simp only[Hid,sZ,v,bE];rfl
 obtain⟨j,l,p,q⟩:=H.cells k _ v;simp only[rz,iv,bm]at j l p q;have ae:(0:Int)<=(k:Int):=by omega
 have af:(k:Int)<4:=by omega
 have A:=ai H;have I:=ai v;have R:g<w.heap.size:=H.lt.2;clear v H;generalize sZ b k ⟨m+1,t⟩=o at*;cases h6:a.1.1==6
 case true=>
  go_enter Tryz.func157,Tryz.ntmps157;go_wp2_with fail;refine(iD _ _ _ _ _ _ _).mono ?_;rintro h e ⟨rfl,d⟩;have f:=ai d;clear j l p q;have r:Hid (lR base g c b e):=(A.out.kept (dq w _ none) (by simp)).below d;have aa:=λS=>r.out.free S;obtain⟨⟨U,V,W,X⟩,_⟩:=Ch d;obtain⟨j,l,p,q⟩:=r.out.cells k _ I.out;simp only[rz,iv,bm]at j l p q;clear d;go_wp2_with fail
  go_ret
  have s:o=some (b.set k ⟨m+1,t⟩):=by rw[D.out,if_pos (by simpa using h6)]
  subst s;exact⟨rfl,kI (cu (((ah _ _).alloc (ag _) _).trans (f.out.mono (by simp))) _) (Bt _ _ _ _),λJ h=>by obtain rfl:=ap h;exact r.out.put k ⟨m+1,t⟩ (by rw[y.1];exact K)⟩
 case false=>
  go_enter Tryz.func157,Tryz.ntmps157;go_wp2_with fail;refine(iD _ _ _ _ _ _ _).mono ?_;rintro h e ⟨rfl,d⟩;clear j l p q;have f:Hid (Below w.heap.size w e):=((ah _ _).alloc (ag _) _).trans (d.mono (by simp));have r:Hid (lR base g c b e):=(A.out.kept (dq w _ none) (by simp)).below d;obtain⟨⟨U,V,W,X⟩,_⟩:=Ch d;obtain⟨j,l,p,q⟩:=r.out.cells k _ I.out;simp only[rz,iv,bm]at j l p q;have z:Hid (B<=w.heap.size):=by have:=A.out.lt;unfold Hid;omega
  have P:Hid (w.heap.size<e.heap.size):=by have:=d.size;simp at this;unfold Hid;omega
  have F:Hid (CX B e ⟨n+1,a⟩/\CX B e ⟨m+1,t⟩):=⟨E.below (f.out.mono z.out),CX.below (x:=⟨m+1,t⟩) (f.out.mono z.out) M⟩;have Q:=ai (zr ⟨n+1,a⟩ ⟨m+1,t⟩ B e.drew (F.out.1.below (ah _ _).drew) (F.out.2.below (ah _ _).drew) (au z.out f.out.size) N L);clear d M E y N L;go_wp2_with fail
  go_region_held3 (λi=>i.cell? ⟨g,k*4,none⟩=some (.int .i64 a.1.1)/\i.cell? ⟨g,k*4+1,none⟩=some (.int .i64 a.1.2.1)/\i.cell? ⟨g,k*4+2,none⟩=some (.string a.1.2.2)/\i.cell? ⟨g,k*4+3,none⟩=some (.slice a.2.1.1 a.2.2.length a.2.1.2)
        /\i.cell? ⟨w.heap.size,0,none⟩=some (.int .i64 t.1.1)/\i.cell? ⟨w.heap.size,1,none⟩=some (.int .i64 t.1.2.1)/\i.cell? ⟨w.heap.size,2,none⟩=some (.string t.1.2.2)/\i.cell? ⟨w.heap.size,3,none⟩=some (.slice t.2.1.1 t.2.2.length t.2.1.2))
      (go_keep) ((go_at_call 159;refine Q.out.mono ?_;rintro h O ⟨T,rfl,G,u⟩;have Z:=aj (co u);have ab:g<e.heap.size:=aL R f.out.size;have ad:w.heap.size<e.heap.size:=P.out))
  replace u:=co u;have C:Hid (w.grownBy O (some g)/\lR base g c b O):=⟨cu (f.out.trans (u.mono f.out.size)) _,r.out.below u⟩;have s:o=if dR ⟨n+1,a⟩ ⟨m+1,t⟩then some b else none:=by rw[D.out,if_neg (by simpa using h6)]
  rw[<-G.out]at s;clear G D;cases h0:T==0
  all_goals
   rw[h0]at s;go_wp2_with fail
   go_ret
   simp only[lH,if_false,cI]at s;subst s
  ·exact⟨rfl,C.out.1,λJ h=>by cases h⟩
  ·exact⟨rfl,C.out.1,λJ h=>by obtain rfl:=ap h;exact C.out.2⟩
def GJ(x:Nd):Bool:= !(x.1.1==5) && !(x.1.1==6)
def jt(n:Nat)(x:Tm n):Bool:=(aq n x).all GJ
def aF:(n:Nat)->Tm n->Bool
 | 0,_=>true
 | n+1,x=> !(x.1.1==5) && !(x.1.1==6) && x.2.2.all λy=>aF n y
theorem eT:(n:Nat)->(x:Tm n)->aF n x=jt n x
 | 0,_=>by simp[aF,jt,aq,GJ]
 | n+1,x=>by
  have key:∀l:List (Tm n),(l.all λy=>aF n y)=(l.flatMap λy=>aq n y).all GJ:=by
   intro l
   induction l with
   | nil=>rfl
   | cons y l ih=>
    have:=eT n y;unfold jt at this;simp only[List.all_cons,bj,List.all_append,ih,this]
  show (!(x.1.1==5) && !(x.1.1==6) && x.2.2.all λy=>aF n y)=(GJ (x.1,(x.2.1.1,x.2.2.length,x.2.1.2)) && (x.2.2.flatMap λy=>aq n y).all GJ);rw[key];rfl
def La(n:Nat):Prop:=∀(x:Tm n)(B:Nat)(w:World),In B w n x->B<=w.heap.size->
 Calls Tryz.prog 43 #[dg n x] w λe w'=>e=.returned (.bool (aF n x))/\Below w.heap.size w w'
theorem yk(n:Nat)(ih:La n)(h I:Int)(s:ByteArray)(a:Option Addr)(pc len:Nat)(p:List (Tm n))(C:Hid (p.length=len))(B:Nat)(w:World)(g:Hid (p=[]\/∃b o,a=some ⟨b,o,none⟩/\b<B/\∀(i:Nat)(y:Tm n),p[i]?=some y->dr w b (o+i*4) n y/\In B w n y))(M:len<=9223372036854775807)(r:B<=w.heap.size):Calls Tryz.prog 43 #[.agg #[.int .i64 h,.int .i64 I,.string s,.slice a len pc]] w λe w'=>e=.returned (.bool (!(h==5) && !(h==6) && p.all λy=>aF n y))/\Below w.heap.size w w':=by
 cases h5:h==5
 case true=>
  go_enter Tryz.func43,Tryz.ntmps43;go_wp2_with fail
  go_ret
  exact⟨bF (by simp),(ah _ _).alloc (ag _) _⟩
 cases h6:h==6
 case true=>
  go_enter Tryz.func43,Tryz.ntmps43;go_wp2_with fail
  go_ret
  exact⟨bF (by simp),(ah _ _).alloc (ag _) _⟩
 have v:(!false && !false && p.all λy=>aF n y)=p.all λy=>aF n y:=by simp
 rw[v];clear v;go_enter Tryz.func43,Tryz.ntmps43;go_wp2_with fail;go_loopw [16] (λi wr=>∃k:Nat,k<=len/\i=.int .i64 k/\Below w.heap.size w wr/\Hid (((p.drop k).all λy=>aF n y)=p.all λy=>aF n y)) (λi _=>len-(intOf i).toNat)
 case atStart=>exact⟨0,by omega,rfl,(ah _ _).alloc (ag _) _,rfl⟩
 case round=>
  obtain⟨k,J,rfl,f,t⟩:=hrel;by_cases F:k<len
  ·obtain⟨c,l⟩:∃c,p[k]?=some c:=⟨p[k]'(by rw[C.out];exact F),aA _⟩;have u:Hid (((p.drop k).all λy=>aF n y)=(aF n c && (p.drop (k+1)).all λy=>aF n y)):=by
    obtain⟨j,E⟩:=aK.1 l;rw[eF j,E];rfl
   rcases g.out with g|⟨N,po,rfl,G,g⟩
   ·subst g;simp at l
   obtain⟨m,q⟩:=g k c l;replace m:=m.below (f.mono r) G;replace q:=q.below (f.mono r);clear g l;cases n with
   | zero=>exact m.elim
   | succ n=>
   obtain⟨O,P,Q,R⟩:=m;have x:B<=wr.heap.size:=au r f.size
   have D:Hid (∀d,Below wr.heap.size wr d->Calls Tryz.prog 43 #[.agg #[.int .i64 c.1.1,.int .i64 c.1.2.1,.string c.1.2.2,.slice c.2.1.1 c.2.2.length c.2.1.2]] d λe w'=>e=.returned (.bool (aF (n+1) c))/\Below d.heap.size d w'):=
    λd j=>ih c B d (q.below (j.mono x)) (au x j.size)
   clear ih q;generalize c.2.2.length=S at*;generalize aF (n+1) c=H at*;have K:(0:Int)<=(k:Int):=by omega
   have L:(k:Int)<(len:Int):=by omega
   go_wp2_with fail;refine(D.out _ ((ah _ _).alloc (ag _) _)).mono ?_;rintro e d ⟨rfl,z⟩;have A:Below w.heap.size w d:=(f.trans (((ah _ _).alloc (ag _) _).mono f.size)).trans (z.mono (by have:=f.size;simp;omega));clear z;cases H with
   | true=>
    go_wp2_with fail;go_roundw
    case rel=>exact⟨k+1,by omega,by go_num,A,by rw[<-t.out,u.out];rfl⟩
    case measure=>simp[intOf];omega
   | false=>
    go_wp2_with fail
    go_ret
    exact⟨bF (by rw[<-t.out,u.out];rfl),A⟩
  ·go_wp2_with fail
   go_ret
   refine⟨bF ?_,f⟩;rw[<-t.out,fJ (by rw[C.out];omega)];rfl
theorem gX(n:Nat):La n:=by
 induction n with
 | zero=>intro g b f a;exact a.elim
 | succ n ih=>
  intro g b f a i;obtain⟨⟨k,m,l⟩,⟨h,pc⟩,e⟩:=g;obtain⟨⟨_,_,_,j,d⟩,c⟩:=a;simp only at j d c;unfold maxLen at d;exact yk n ih k m l h pc e.length e rfl b f c (by omega) i
def eW:(n:Nat)->Tm n->Int
 | 0,_=>0
 | n+1,x=>if x.1.1=4 then 1+x.2.2.foldl (λm y=>max m (eW n y)) 0 else 0
def rm(n:Nat)(p:List (Tm n))(k:Nat):Int:=(p.take k).foldl (λm y=>max m (eW n y)) 0
theorem AJ(n:Nat)(p:List (Tm n))(k:Nat)(x:Tm n)(b:p[k]?=some x):rm n p (k+1)=max (rm n p k) (eW n x):=by
 obtain⟨c,a⟩:=aK.1 b;unfold rm;rw[nW c,a,jN];rfl
theorem oJ{n:Nat}(N:Int):(l:List (Tm n))->(m:Int)->0<=m->m<=N->(∀y∈l,0<=eW n y/\eW n y<=N)->0<=l.foldl (λm y=>max m (eW n y)) m/\l.foldl (λm y=>max m (eW n y)) m<=N
 | [],_,h0,h1,_=>⟨h0,h1⟩
 | y::l,m,h0,h1,h=>by
  have b:=h y (by simp);exact oJ N l (max m (eW n y)) (by omega) (by omega) (λz a=>h z (by simp[a]))
theorem jx{n:Nat}(l:List (Tm n))(y:Tm n)(c:y∈l):(aq n y).length<=(l.flatMap λy=>aq n y).length:=by
 obtain⟨a,d⟩:=cB c;have b:=CS (λy=>aq n y) l (a+1);rw[Ex _ l a y d,aX]at b;omega
theorem fB:(n:Nat)->(x:Tm n)->0<=eW n x/\eW n x<=(aq n x).length
 | 0,_=>by simp[eW]
 | n+1,x=>by
  have e:=oJ ((x.2.2.flatMap λy=>aq n y).length:Int) x.2.2 0 (by omega) (by omega) (λy b=>by
   have c:=fB n y;have d:=jx x.2.2 y b
   omega)
  simp only[eW,aq,aW];by_cases a:x.1.1=4
  ·rw[if_pos a];omega
  ·rw[if_neg a];omega
theorem yu(n:Nat)(p:List (Tm n))(k:Nat):0<=rm n p k/\rm n p k<=(p.flatMap λy=>aq n y).length:=
 oJ _ (p.take k) 0 (by omega) (by omega) (λy a=>by
  have b:=fB n y;have c:=jx p y (List.mem_of_mem_take a)
  omega)
def Lb(n:Nat):Prop:=∀(x:Tm n)(B:Nat)(w:World),In B w n x->B<=w.heap.size->(aq n x).length<=2097152->
 Calls Tryz.prog 69 #[dg n x] w λe w'=>e=.returned (.int .i64 (eW n x))/\Below w.heap.size w w'
theorem AK(b d:Int)(s:ByteArray)(a:Option Addr)(len pc:Nat)(w:World)(c:¬b=4):Calls Tryz.prog 69 #[.agg #[.int .i64 b,.int .i64 d,.string s,.slice a len pc]] w λe w'=>e=.returned (.int .i64 0)/\Below w.heap.size w w':=by
 have f:(b !=4)=true:=by simpa using c
 clear c;go_enter Tryz.func69,Tryz.ntmps69;go_wp2_with fail
 go_ret
 exact⟨rfl,(ah _ _).alloc (ag _) _⟩
theorem Dl(n:Nat)(ih:Lb n)(P:Int)(s:ByteArray)(a:Option Addr)(pc len:Nat)(p:List (Tm n))(E:Hid (p.length=len))(B:Nat)(w:World)(h:Hid (p=[]\/∃b o,a=some ⟨b,o,none⟩/\b<B/\∀(i:Nat)(y:Tm n),p[i]?=some y->dr w b (o+i*4) n y/\In B w n y))(T:len<=9223372036854775807)(u:B<=w.heap.size)(O:Hid (1+(p.flatMap λy=>aq n y).length<=2097152)):Calls Tryz.prog 69 #[.agg #[.int .i64 4,.int .i64 P,.string s,.slice a len pc]] w λe w'=> e=.returned (.int .i64 (1+p.foldl (λm y=>max m (eW n y)) 0))/\Below w.heap.size w w':=by
 go_enter Tryz.func69,Tryz.ntmps69;go_wp2_with fail;go_loopw [3,12] (λt i wr=>∃k:Nat,∃d:Int,k<=len/\i=.int .i64 k/\t=.int .i64 d/\Hid (d=rm n p k)/\Below w.heap.size w wr) (λ_ i _=>len-(intOf i).toNat)
 case atStart=>exact⟨0,0,by omega,rfl,rfl,by simp[Hid,rm],(ah _ _).alloc (ag _) _⟩
 case round=>
  obtain⟨k,d,Q,rfl,rfl,v,g⟩:=hrel;have r:=yu n p k;rw[<-v.out]at r;have K:=O.out;have V:0<=d:=r.1;have W:d<=2097152:=by omega
  clear r;by_cases M:k<len
  ·obtain⟨c,j⟩:∃c,p[k]?=some c:=⟨p[k]'(by rw[E.out];exact M),aA _⟩;have I:=ai (AJ n p k c j);have J:=jx p c (ay j);have F:(aq n c).length<=2097152:=by omega
   clear J K;rcases h.out with h|⟨U,po,rfl,N,h⟩
   ·subst h;simp at j
   obtain⟨l,q⟩:=h k c j;replace l:=l.below (g.mono u) N;replace q:=q.below (g.mono u);clear h j;cases n with
   | zero=>exact l.elim
   | succ n=>
   obtain⟨X,Y,Z,aa⟩:=l;have A:B<=wr.heap.size:=au u g.size
   have G:Hid (∀f,Below wr.heap.size wr f->Calls Tryz.prog 69 #[.agg #[.int .i64 c.1.1,.int .i64 c.1.2.1,.string c.1.2.2,.slice c.2.1.1 c.2.2.length c.2.1.2]] f λe w'=>e=.returned (.int .i64 (eW (n+1) c))/\Below f.heap.size f w'):=
    λf z=>ih c B f (q.below (z.mono A)) (au A z.size) F
   clear ih q F;generalize c.2.2.length=ab at*;generalize eW (n+1) c=x at*;have R:(0:Int)<=(k:Int):=by omega
   have S:(k:Int)<(len:Int):=by omega
   go_wp2_with fail;refine(G.out _ ((ah _ _).alloc (ag _) _)).mono ?_;rintro e f ⟨rfl,C⟩;have L:Below w.heap.size w f:=(g.trans (((ah _ _).alloc (ag _) _).mono g.size)).trans (C.mono (by have:=g.size;simp;omega));clear C;have D:max d x=if d<x then x else d:=by split<;>omega
   have H:=ai D;clear D;go_wp2_with fail;go_roundw
   case rel=>exact⟨k+1,_,by omega,by go_num,rfl,by simp only[Hid];rw[I.out,<-v.out,H.out],L⟩
   case measure=>simp[intOf];omega
  ·go_wp2_with fail
   go_ret
   refine⟨iw ?_,g⟩;rw[v.out];unfold rm;rw[bk (by rw[E.out];omega)]
theorem Dk(n:Nat):Lb n:=by
 induction n with
 | zero=>intro o i b g;exact g.elim
 | succ n ih=>
  intro o i b g q m;obtain⟨⟨k,e,d⟩,⟨c,pc⟩,a⟩:=o;obtain⟨⟨_,_,_,s,l⟩,j⟩:=g;simp only at s l j;unfold maxLen at l;have r:(aq (n+1) ((k,e,d),(c,pc),a)).length=1+(a.flatMap λh=>aq n h).length:=by simp only[aq,aW];omega
  rw[r]at m;show Calls Tryz.prog 69 #[.agg #[.int .i64 k,.int .i64 e,.string d,.slice c a.length pc]] b λp u=>p=.returned (.int .i64 (if k=4 then 1+a.foldl (λt h=>max t (eW n h)) 0 else 0))/\Below b.heap.size b u;by_cases f:k=4
  ·subst f;exact Dl n ih e d c pc a.length a rfl i b j (by omega) q m
  ·rw[if_neg f];exact AK k e d c a.length pc b f
def oA(n:Nat)(p:List (Tm n))(k:Nat):Int:=1+p.length+((p.take k).map λy=>sz n y).sum
theorem BW(n:Nat)(p:List (Tm n))(k:Nat)(x:Tm n)(b:p[k]?=some x):oA n p (k+1)=oA n p k+sz n x:=by
 obtain⟨c,a⟩:=aK.1 b;unfold oA;rw[nW c,a];simp;omega
theorem Ew(n:Nat)(l:List (Tm n)):(l.map λy=>1+sz n y).sum=l.length+(l.map λy=>sz n y).sum:=by
 induction l with
 | nil=>simp
 | cons y l ih=>simp only[aH,bt,aW,ih];omega
theorem EH(n:Nat)(p:List (Tm n))(k:Nat)(a:p.length<=k):oA n p k=1+(p.map λy=>1+sz n y).sum:=by
 unfold oA;rw[bk a,Ew];omega
theorem vd(n:Nat)(p:List (Tm n)):p.length<=(p.flatMap λy=>aq n y).length:=by
 induction p with
 | nil=>simp
 | cons y l ih=>
  have:1<=(aq n y).length:=by cases n<;>simp[aq]
  simp only[bj,aX,aW];omega
theorem Ad(n:Nat)(p:List (Tm n))(k:Nat):0<=oA n p k/\oA n p k<=3*(1+(p.flatMap λy=>aq n y).length:Int):=by
 have b:=vd n p;have a:=CS (λy=>aq n y) p k;have key:∀l:List (Tm n),0<=(l.map λy=>sz n y).sum/\(l.map λy=>sz n y).sum<=2*((l.flatMap λy=>aq n y).length:Int):=by
  intro l
  induction l with
  | nil=>exact⟨by simp,by simp⟩
  | cons y l ih=>
   have c:=eC n y;simp only[aH,bt,bj,aX];exact⟨by omega,by omega⟩
 have k:=key (p.take k);unfold oA;exact⟨by omega,by omega⟩
def Mg(n:Nat):Prop:=∀(x:Tm n)(B:Nat)(w:World),In B w n x->B<=w.heap.size->(aq n x).length<=2097152->
 Calls Tryz.prog 70 #[dg n x] w λe w'=>e=.returned (.int .i64 (sz n x))/\Below w.heap.size w w'
theorem BV(b d:Int)(s:ByteArray)(a:Option Addr)(len pc:Nat)(w:World)(c:¬b=4):Calls Tryz.prog 70 #[.agg #[.int .i64 b,.int .i64 d,.string s,.slice a len pc]] w λe w'=>e=.returned (.int .i64 0)/\Below w.heap.size w w':=by
 have f:(b !=4)=true:=by simpa using c
 clear c;go_enter Tryz.func70,Tryz.ntmps70;go_wp2_with fail
 go_ret
 exact⟨rfl,(ah _ _).alloc (ag _) _⟩
theorem EG(n:Nat)(ih:Mg n)(M:Int)(s:ByteArray)(a:Option Addr)(pc len:Nat)(p:List (Tm n))(l:Hid (p.length=len))(B:Nat)(w:World)(g:Hid (p=[]\/∃b o,a=some ⟨b,o,none⟩/\b<B/\∀(i:Nat)(y:Tm n),p[i]?=some y->dr w b (o+i*4) n y/\In B w n y))(v:B<=w.heap.size)(D:Hid (1+(p.flatMap λy=>aq n y).length<=2097152)):Calls Tryz.prog 70 #[.agg #[.int .i64 4,.int .i64 M,.string s,.slice a len pc]] w λe w'=> e=.returned (.int .i64 (1+(p.map λy=>1+sz n y).sum))/\Below w.heap.size w w':=by
 have S:len<=2097152:=by have u:=vd n p;have O:=D.out;rw[<-l.out];omega
 go_enter Tryz.func70,Tryz.ntmps70;go_wp2_with fail;go_loopw [3,16] (λt i wr=>∃k:Nat,∃h:Int,k<=len/\i=.int .i64 k/\t=.int .i64 h/\Hid (h=oA n p k)/\Below w.heap.size w wr) (λ_ i _=>len-(intOf i).toNat)
 case atStart=>exact⟨0,1+len,by omega,rfl,rfl,by simp only[Hid,oA];rw[l.out];simp,(ah _ _).alloc (ag _) _⟩
 case round=>
  obtain⟨k,h,P,rfl,rfl,x,f⟩:=hrel;have r:=Ad n p k;rw[<-x.out]at r;have I:=D.out;have U:0<=h:=r.1;have V:h<=6291456:=by omega
  clear r;by_cases K:k<len
  ·obtain⟨c,j⟩:∃c,p[k]?=some c:=⟨p[k]'(by rw[l.out];exact K),aA _⟩;have G:=ai (BW n p k c j);have H:=jx p c (ay j);have E:(aq n c).length<=2097152:=by omega
   have z:=eC n c;have ab:0<=sz n c:=z.1;have ad:sz n c<=4194304:=by omega
   clear H I z;rcases g.out with g|⟨T,po,rfl,L,g⟩
   ·subst g;simp at j
   obtain⟨m,q⟩:=g k c j;replace m:=m.below (f.mono v) L;replace q:=q.below (f.mono v);clear g j;cases n with
   | zero=>exact m.elim
   | succ n=>
   obtain⟨W,X,Y,Z⟩:=m;have A:B<=wr.heap.size:=au v f.size
   have F:Hid (∀d,Below wr.heap.size wr d->Calls Tryz.prog 70 #[.agg #[.int .i64 c.1.1,.int .i64 c.1.2.1,.string c.1.2.2,.slice c.2.1.1 c.2.2.length c.2.1.2]] d λe w'=>e=.returned (.int .i64 (sz (n+1) c))/\Below d.heap.size d w'):=
    λd u=>ih c B d (q.below (u.mono A)) (au A u.size) E
   clear ih q E;generalize c.2.2.length=aa at*;generalize sz (n+1) c=N at*;have Q:(0:Int)<=(k:Int):=by omega
   have R:(k:Int)<(len:Int):=by omega
   go_wp2_with fail;refine(F.out _ ((ah _ _).alloc (ag _) _)).mono ?_;rintro e d ⟨rfl,C⟩;have J:Below w.heap.size w d:=(f.trans (((ah _ _).alloc (ag _) _).mono f.size)).trans (C.mono (by have:=f.size;simp;omega));clear C;go_wp2_with fail;go_roundw
   case rel=>exact⟨k+1,h+N,by omega,by go_num,by go_num,by simp only[Hid];rw[G.out,<-x.out],J⟩
   case measure=>simp[intOf];omega
  ·go_wp2_with fail
   go_ret
   refine⟨iw ?_,f⟩;rw[x.out,EH n p k (by rw[l.out];omega)]
theorem vJ(n:Nat):Mg n:=by
 induction n with
 | zero=>intro m i b g;exact g.elim
 | succ n ih=>
  intro m i b g p l;obtain⟨⟨k,e,d⟩,⟨c,pc⟩,a⟩:=m;obtain⟨⟨_,_,_,s,r⟩,j⟩:=g;simp only at s r j;have q:(aq (n+1) ((k,e,d),(c,pc),a)).length=1+(a.flatMap λh=>aq n h).length:=by simp only[aq,aW];omega
  rw[q]at l;show Calls Tryz.prog 70 #[.agg #[.int .i64 k,.int .i64 e,.string d,.slice c a.length pc]] b λo t=>o=.returned (.int .i64 (if k=4 then 1+(a.map λh=>1+sz n h).sum else 0))/\Below b.heap.size b t;by_cases f:k=4
  ·subst f;exact EG n ih e d c pc a.length a rfl i b j p l
  ·rw[if_neg f];exact BV k e d c a.length pc b f
theorem Aa(w:World)(k u:Int)(s:ByteArray)(a:Option Addr)(l c:Nat)(i:Bool)(d z:Int)(D:Hid (∀w1,Below w.heap.size w w1->Calls Tryz.prog 68 #[.agg #[.int .i64 k,.int .i64 u,.string s,.slice a l c]] w1 λe w'=>e=.returned (.bool i)/\Below w1.heap.size w1 w'))(C:Hid (∀w1,Below w.heap.size w w1->Calls Tryz.prog 69 #[.agg #[.int .i64 k,.int .i64 u,.string s,.slice a l c]] w1 λe w'=>e=.returned (.int .i64 d)/\Below w1.heap.size w1 w'))(E:Hid (∀w1,Below w.heap.size w w1->Calls Tryz.prog 70 #[.agg #[.int .i64 k,.int .i64 u,.string s,.slice a l c]] w1 λe w'=>e=.returned (.int .i64 z)/\Below w1.heap.size w1 w')):Calls Tryz.prog 42 #[.agg #[.int .i64 k,.int .i64 u,.string s,.slice a l c]] w λe w'=>e=.returned (.int .i64 (if i then if 12<d\/200<z then 2 else 0 else 5))/\Below w.heap.size w w':=by
 generalize A:(if i then if 12<d\/200<z then (2:Int)else 0 else 5)=I;have h:=ai A;clear A;go_enter Tryz.func42,Tryz.ntmps42;go_wp2_with fail;refine(D.out _ ((ah _ _).alloc (ag _) _)).mono ?_;rintro e w1 ⟨rfl,j⟩;have f:Hid (Below w.heap.size w w1/\w.heap.size+1<=w1.heap.size):=⟨((ah _ _).alloc (ag _) _).trans (j.mono (by simp)),by have:=j.size;simpa using this⟩;have b:=aj j;simp only[jb]at b;have q:=(b w.heap.size 0 (by omega)).trans (by simp[go_sem]:_=some (Value.int .i64 k));have r:=(b w.heap.size 1 (by omega)).trans (by simp[go_sem]:_=some (Value.int .i64 u));have t:=(b w.heap.size 2 (by omega)).trans (by simp[go_sem]:_=some (Value.string s));have v:=(b w.heap.size 3 (by omega)).trans (by simp[go_sem]:_=some (Value.slice a l c));clear b j;cases i with
 | false=>
  go_wp2_with fail
  go_ret
  exact⟨iw (by rw[<-h.out];rfl),f.out.1⟩
 | true=>
  go_wp2_with fail;refine(C.out _ f.out.1).mono ?_;rintro e G ⟨rfl,o⟩;have g:Hid (Below w.heap.size w G):=f.out.1.trans (o.mono f.out.1.size);have b:=aj o;have F:=f.out.2;replace q:=(b w.heap.size 0 (by omega)).trans q;replace r:=(b w.heap.size 1 (by omega)).trans r;replace t:=(b w.heap.size 2 (by omega)).trans t;replace v:=(b w.heap.size 3 (by omega)).trans v;clear b o F;by_cases x:12<d
  ·have m:=ai x;go_wp2_with fail
   go_ret
   exact⟨iw (by rw[<-h.out,if_pos trivial,if_pos (ae m.out)]),g.out⟩
  ·have m:=ai x;go_wp2_with fail;refine(E.out _ g.out).mono ?_;rintro e H ⟨rfl,y⟩;have p:Hid (Below w.heap.size w H):=g.out.trans (y.mono g.out.size);clear y;by_cases B:200<z
   ·have n:=ai B;go_wp2_with fail
    go_ret
    exact⟨iw (by rw[<-h.out,if_pos trivial,if_pos (af n.out)]),p.out⟩
   ·have n:=ai B;go_wp2_with fail
    go_ret
    exact⟨iw (by rw[<-h.out,if_pos trivial,if_neg (by have:=m.out;have:=n.out;omega)]),p.out⟩
def xu(n:Nat)(x:Tm n):Int:=if bO n x then if 12<eW n x\/200<sz n x then 2 else 0 else 5
theorem zZ(n:Nat)(x:Tm n)(B:Nat)(w:World)(d:In B w n x)(b:B<=w.heap.size)(f:(aq n x).length<=2097152):Calls Tryz.prog 42 #[dg n x] w λe w'=>e=.returned (.int .i64 (xu n x))/\Below w.heap.size w w':=by
 cases n with
 | zero=>exact d.elim
 | succ n=>
 exact Aa w x.1.1 x.1.2.1 x.1.2.2 x.2.1.1 x.2.2.length x.2.1.2 (bO (n+1) x) (eW (n+1) x) (sz (n+1) x)
  (λc a=>AR (n+1) x B c (d.below (a.mono b)) (au b a.size))
  (λc a=>Dk (n+1) x B c (d.below (a.mono b)) (au b a.size) f)
  (λc a=>vJ (n+1) x B c (d.below (a.mono b)) (au b a.size) f)
theorem kH:(n:Nat)->(x:Tm n)->bO n x=(aq n x).all bT
 | 0,_=>by simp[bO,aq,bT]
 | n+1,x=>by
  have e:(aq (n+1) x).all bT=(bT (bm n x) && (x.2.2.flatMap λy=>aq n y).all bT):=rfl;rw[e];simp only[bO];cases hg:bT (bm n x)
  ·rfl
  ·rw[ed,ed];by_cases b:x.1.1=4
   ·rw[b];have key:∀l:List (Tm n),(l.all λy=>bO n y)=(l.flatMap λy=>aq n y).all bT:=by
     intro l
     induction l with
     | nil=>rfl
     | cons y l ih=>simp only[List.all_cons,bj,List.all_append,ih,kH n y]
    rw[key];simp
   ·have c:x.2.2=[]:=by
      unfold bT at hg;simp only[az,gI,ci]at hg;rcases hg.2 with a|a
      ·exact(b a).elim
      ·have:¬(0:Int)<(x.2.2.length:Int):=by simpa [bm]using a
       exact bK (by omega)
    rw[c];simp
def mw:List Nd->List Int->Int->Int
 | x::l,d::ds,m=>mw l ds (kT x d m)
 | _,_,m=>m
theorem yd(z:Int):(l:List Nd)->(b:List Int)->(m:Int)->l.length=b.length->xZ z l b m=if l.all bT then (if 12<mw l b m\/200<z then 2 else 0)else 5
 | [],_,_,_=>rfl
 | x::l,[],_,a=>by simp at a
 | x::l,d::b,m,a=>by
  have ih:=yd z l b (kT x d m) (by simpa using a);simp only[xZ,mw];by_cases f:bT x=true
  ·have e:(x::l).all bT=l.all bT:=by simp[f]
   rw[if_pos f,ih];by_cases c:l.all bT=true
   ·rw[if_pos c,if_pos (e.trans c)];rfl
   ·rw[if_neg c,if_neg (λa=>c (e.symm.trans a))]
  ·rw[if_neg f,if_neg (λa=>f (bS.1 a x (by simp)))]
theorem pE:(l r:List Nd)->(a es:List Int)->(m:Int)->l.length=a.length->mw (l++r) (a++es) m=mw r es (mw l a m)
 | [],_,[],_,_,_=>rfl
 | [],_,_::_,_,_,h=>by simp at h
 | _::_,_,[],_,_,h=>by simp at h
 | x::l,r,d::a,es,m,h=>by
  simp only[fq,mw];exact pE l r a es _ (by simpa using h)
theorem yD{n:Nat}(c:Int):(p:List (Tm n))->(m e:Int)->p.foldl (λm y=>max m (c+eW n y)) (max m (c+e))=max m (c+p.foldl (λm y=>max m (eW n y)) e)
 | [],_,_=>rfl
 | y::p,m,e=>by
  simp only[gK];have a:max (max m (c+e)) (c+eW n y)=max m (c+max e (eW n y)):=by omega
  rw[a];exact yD c p m (max e (eW n y))
theorem yr:(n:Nat)->(x:Tm n)->(d m:Int)->(∀a∈aq n x,bT a=true)->d<=m->mw (aq n x) (mK n x d) m=max m (d+eW n x)
 | 0,x,_,_,h,_=>by
  have:=h ((0,0,.empty),(none,0,0)) (by simp[aq]);rcases jD _ this with g|g|g|g|g|⟨g,_⟩<;>simp at g
 | n+1,x,d,m,h,k=>by
  have f:=h (bm n x) (by simp[aq,bm]);have key:∀(p:List (Tm n))(m:Int),(∀y∈p,y∈x.2.2)->d+1<=m->mw (p.flatMap λy=>aq n y) (p.flatMap λy=>mK n y (d+1)) m=p.foldl (λm y=>max m (d+1+eW n y)) m:=by
   intro p
   induction p with
   | nil=>intro m _ _;rfl
   | cons y p ih=>
    intro m l k;simp only[bj,gK];rw[pE _ _ _ _ _ (ju n y (d+1)).symm,yr n y (d+1) m (λa q=>h a (nG (l y (by simp)) q)) k];exact ih _ (λu t=>l u (by simp[t])) (by omega)
  have o:mw (aq (n+1) x) (mK (n+1) x d) m=mw (x.2.2.flatMap λy=>aq n y) (x.2.2.flatMap λy=>mK n y (d+1)) (kT (bm n x) d m):=rfl;rw[o];simp only[eW];by_cases b:x.1.1=4
  ·rw[if_pos b];have c:kT (bm n x) d m=max m (d+1+0):=by
    unfold kT bm;by_cases j:m<d+1
    ·rw[if_pos ⟨b,j⟩];omega
    ·rw[if_neg (λi=>j i.2)];omega
   rw[c,key x.2.2 _ (λ_ s=>s) (by omega),yD];omega
  ·rw[if_neg b];have r:x.2.2=[]:=by
    unfold bT at f;simp only[az,gI,ci]at f;rcases f.2 with e|e
    ·exact(b e).elim
    ·have:¬(0:Int)<(x.2.2.length:Int):=by simpa [bm]using e
     exact bK (by omega)
   have c:kT (bm n x) d m=m:=Dj _ (λi=>b i.1);rw[r,c];simp only[List.flatMap_nil,mw];omega
theorem iK(n:Nat)(x:Tm n):xu n x=bA n x:=by
 unfold xu bA;rw[yd _ _ _ _ (ju n x 0).symm,<-kH n x];by_cases a:bO n x=true
 ·rw[if_pos a,if_pos a];have d:∀b∈aq n x,bT b=true:=by
   rw[kH n x]at a;exact λb c=>bS.1 a b c
  have e:=fB n x;rw[yr n x 0 0 d (by omega)];have:max (0:Int) (0+eW n x)=eW n x:=by omega
  rw[this]
 ·rw[if_neg a,if_neg a]
theorem dL(n:Nat)(x:Tm n)(B:Nat)(w:World)(c:In B w n x)(a:B<=w.heap.size)(b:(aq n x).length<=2097152):Calls Tryz.prog 42 #[dg n x] w λe w'=>e=.returned (.int .i64 (bA n x))/\Below w.heap.size w w':=by
 rw[<-iK];exact zZ n x B w c a b
end Go.Proofs.YtnidfceinoiboaaGreat
