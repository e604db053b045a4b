/- Proved here: plain facts and contracts. No condition but what each names. -/
import Derived.Test.YtmmahddlcldmiaaGreatDoorT04
import Derived.Deep.RegionHeld3
import Derived.Deep.DrawnRows
import Derived.Laws.MakeOwn
namespace Go.Proofs.YtmmahddlcldmiaaGreatDoor
open Go.RowKit Go.Proofs.Tryz
set_option maxHeartbeats 1000000
def cd(P:Nat->Prop):(n:Nat)->Tm n->Prop
 | 0,_=>False
 | n+1,x=>x.2.2=[]\/∃b o,x.2.1.1=some ⟨b,o,none⟩/\P b/\∀(i:Nat)(y:Tm n),x.2.2[i]?=some y->cd P n y
theorem cd.mono{P Q:Nat->Prop}(a:∀b,P b->Q b):{n:Nat}->{x:Tm n}->cd P n x->cd Q n x
 | 0,_,k=>k
 | _+1,_,k=>by
  rcases k with k|⟨b,o,e,c,k⟩
  ·exact ah k
  ·exact ai ⟨b,o,e,a b c,λi y d=>(k i y d).mono a⟩
theorem bt{w w':World}{b:Nat}(a:w'.heap[b]?=w.heap[b]?)(o:Nat):w'.cell? ⟨b,o,none⟩=w.cell? ⟨b,o,none⟩:=by
 simp[World.cell?,a]
theorem dB.block{w w':World}{b o:Nat}(a:w'.heap[b]?=w.heap[b]?):{n:Nat}->{x:Tm n}->dB w b o n x->dB w' b o n x
 | 0,_,k=>k
 | _+1,_,k=>by
  obtain⟨c,d,e,f⟩:=k;exact⟨(bt a _).trans c,(bt a _).trans d,(bt a _).trans e,(bt a _).trans f⟩
theorem In.off{P:Nat->Prop}{w w':World}(f:∀b,P b->w'.heap[b]?=w.heap[b]?){B:Nat}:{n:Nat}->{x:Tm n}->cd P n x->In B w n x->In B w' n x
 | 0,_,_,k=>k
 | _+1,_,p,k=>by
  obtain⟨m,a⟩:=k;refine⟨m,?_⟩;rcases a with a|⟨b,o,e,j,a⟩
  ·exact ah a
  ·rcases p with p|⟨q,r,c,l,p⟩
   ·exact ah p
   ·rw[e]at c;injection c with c;injection c with g h;subst g h;exact ai ⟨b,o,e,j,λi y d=>⟨(a i y d).1.block (f b l),(a i y d).2.off f (p i y d)⟩⟩
theorem In.offB{P:Nat->Prop}{B:Nat}{w:World}:{n:Nat}->{x:Tm n}->cd P n x->In B w n x->cd (λb=>P b/\b<B) n x
 | 0,_,p,_=>p
 | _+1,_,p,k=>by
  obtain⟨_,a⟩:=k;rcases p with p|⟨b,o,e,h,p⟩
  ·exact ah p
  ·rcases a with a|⟨l,m,c,j,a⟩
   ·exact ah a
   ·rw[e]at c;injection c with c;injection c with f g;subst f g;exact ai ⟨b,o,e,⟨h,j⟩,λi y d=>In.offB (p i y d) (a i y d).2⟩
def gg:(n:Nat)->Tm n->Nd
 | 0,_=>((0,0,⟨#[]⟩),(none,0,0))
 | n+1,x=>bw n x
theorem MG{w:World}{base g c L:Nat}{n:Nat}{l:List (Tm (n+1))}(a:w.ownsRow base 28 4 (ae (some ⟨g,0,none⟩) L c) L (cv (l.map (gg (n+1)))))(k:Nat)(x:Tm (n+1))(d:l[k]?=some x):dB w g (0+k*4) (n+1) x:=by
 have b:=DS a k (gg (n+1) x) (by simp[d]);rw[dc];exact b
def qO(base:Nat)(n:Nat)(l:List (Tm n))(v:Value)(w:World):Prop:=
 w.ownsRow base 28 4 v l.length (cv (l.map (gg n)))/\∀a∈l,In w.heap.size w n a/\cd (λb=>base<=b/\v.ownBlock≠some b) n a
theorem qO.tup{base n:Nat}{l:List (Tm (n+1))}{v:Value}{w:World}(m:qO base (n+1) l v w):∃a c,v=ae a l.length c/\cd (λb=>base<=b) (n+2) ((4,0,⟨#[]⟩),(a,c),l)/\In w.heap.size w (n+2) ((4,0,⟨#[]⟩),(a,c),l):=by
 obtain⟨i,j⟩:=m;have d:dt 4/\dt 0/\(⟨#[]⟩:ByteArray).size<=maxLen:=⟨⟨by omega,by omega⟩,⟨by omega,by omega⟩,aI _⟩;have e:=i;obtain⟨y,e⟩:=e;rcases e with⟨e,o⟩|⟨f,cap,x,rfl,r,s,q,u,A,z⟩
 ·have:l=[]:=bF o;subst this;refine⟨none,0,by rw[e];rfl,ah rfl,⟨d.1,d.2.1,d.2.2,aI _,aI _⟩,ah rfl⟩
 ·have t:f<w.heap.size:=(aF.1 s).1;refine⟨some ⟨f,0,none⟩,cap,rfl,ai ⟨f,0,rfl,r,λk h g=>((j h (aH g)).2).mono λb p=>p.1⟩,⟨d.1,d.2.1,d.2.2,q,u⟩,ai ⟨f,0,rfl,t,λk h g=>⟨MG i k h g,(j h (aH g)).1⟩⟩⟩
def te(a:An):Nd:=gg a.1 a.2
def fT(l:List An):List Value:=cv (l.map te)
theorem kS(l:List An):(fT l).length=l.length*4:=by simp[fT,oo]
theorem AF(l:List An):∀a∈fT l,a.oneCell'=true:=tf _
def nb(base:Nat)(g c:Nat)(b:List An)(w:World):Prop:=w.ownsRow base 28 4 (ae (some ⟨g,0,none⟩) b.length c) b.length (fT b)
theorem nb.cells{base g c:Nat}{b:List An}{w:World}(a:nb base g c b w)(i:Nat)(y:An)(d:b[i]?=some y):w.cell? ⟨g,i*4,none⟩=some (ab (te y).1.1)/\w.cell? ⟨g,i*4+1,none⟩=some (ab (te y).1.2.1)/\w.cell? ⟨g,i*4+2,none⟩=some (af (te y).1.2.2)/\w.cell? ⟨g,i*4+3,none⟩=some (.slice (te y).2.1 (te y).2.2.1 (te y).2.2.2):=
 DS (l:=b.map te) a i (te y) (by simp[d])
theorem nb.lt{base g c:Nat}{b:List An}{w:World}(a:nb base g c b w):base<=g/\g<w.heap.size:=World.ownsRow.lt a g rfl
theorem nb.kept{base g c:Nat}{b:List An}{w w':World}(d:nb base g c b w){row:Option Nat}(e:w.grownBy w' row)(f:row≠some g):nb base g c b w':=
 pA d e (ai λa=>f a.symm)
theorem cO{w w':World}(a:aj w w')(row:Option Nat):w.grownBy w' row:=⟨a.os,a.tape,a.output,a.size,λk b _=>a.block k b⟩
theorem nb.below{base g c:Nat}{b:List An}{w w':World}(a:nb base g c b w)(d:aj w w'):nb base g c b w':=a.kept (cO d none) (by simp)
theorem od{w w':World}{g B:Nat}(a:w.grownBy w' (some g))(b:B<=g)(c:g<w.heap.size):Below B w w':=⟨a.os,a.tape,a.output,a.size,λk d=>a.block k (by omega) (by simp;omega)⟩
theorem lD{w w1 w2:World}{row:Option Nat}(a:w.grownBy w1 row)(k:w1.grownBy w2 row):w.grownBy w2 row:=
 ⟨k.os.trans a.os,k.tape.trans a.tape,k.output.trans a.output,az a.size k.size,λb c d=>(k.block b (aR c a.size) d).trans (a.block b c d)⟩
theorem nb.free{base g c:Nat}{b:List An}{w:World}(e:nb base g c b w)(j:Nat):w.frozen? ⟨g,j,none⟩=false:=by
 obtain⟨n,d⟩:=e;rcases d with⟨d,_⟩|⟨m,cap,i,h,q,f,o,r,s,p⟩
 ·simp at d
 ·injection h with a k l;injection a with a;injection a with a _;subst a;simp[World.frozen?,f]
def cW(w:World)(g o:Nat)(v0 v1 v2 v3:Value):World:=(((w.setCell ⟨g,o,none⟩ v0).setCell ⟨g,o+1,none⟩ v1).setCell ⟨g,o+2,none⟩ v2).setCell ⟨g,o+3,none⟩ v3
def jv(w:World)(g o:Nat)(x:Nd):World:=cW w g o (ab x.1.1) (ab x.1.2.1) (af x.1.2.2) (ae x.2.1 x.2.2.1 x.2.2.2)
theorem jo{w:World}{base e size g L c:Nat}{xs:List Value}(i:w.ownsRow base e size (ae (some ⟨g,0,none⟩) L c) L xs)(j:Nat)(d:Value):(w.setCell ⟨g,j,none⟩ d).ownsRow base e size (ae (some ⟨g,0,none⟩) L c) L (xs.set j d):=by
 obtain⟨k,b⟩:=i;refine⟨by simpa using k,?_⟩;rcases b with⟨b,_⟩|⟨t,cap,f,q,n,o,l,p,r,m⟩
 ·simp at b
 ·injection q with a s h;injection a with a;injection a with a _;subst a h;refine ai ⟨g,c,f.setIfInBounds j d,rfl,n,?_,l,p,by simpa using r,?_⟩
  ·simp[World.setCell,bN,o]
  ·rw[<-m];simp[List.take_set]
theorem tg:(l:List Nd)->(i:Nat)->(x:Nd)->i<l.length-> ((((cv l).set (i*4) (ab x.1.1)).set (i*4+1) (ab x.1.2.1)).set (i*4+2) (af x.1.2.2)).set (i*4+3) (ae x.2.1 x.2.2.1 x.2.2.2)=cv (l.set i x)
 | [],i,x,h=>by simp at h
 | y::l,0,x,_=>by simp[cv,vC]
 | y::l,i+1,x,h=>by
  have ih:=tg l i x (by simpa using h);have e:cv (y::l)=vC y++cv l:=rfl;have b:cv ((y::l).set (i+1) x)=vC y++cv (l.set i x):=rfl;have a:(vC y).length=4:=rfl;rw[e,b,<-ih];rw[iq _ _ (by rw[a];omega),iq _ _ (by rw[a];omega),iq _ _ (by rw[a];omega),iq _ _ (by rw[a];omega),a];rw[show (i+1)*4-4=i*4 by omega,show (i+1)*4+1-4=i*4+1 by omega,show (i+1)*4+2-4=i*4+2 by omega,show (i+1)*4+3-4=i*4+3 by omega]
theorem nb.put{base g c:Nat}{b:List An}{w:World}(d:nb base g c b w)(i:Nat)(t:An)(e:i<b.length):nb base g c (b.set i t) (jv w g (i*4) (te t)):=by
 have a:=jo (jo (jo (jo d (i*4) (ab (te t).1.1)) (i*4+1) (ab (te t).1.2.1)) (i*4+2) (af (te t).1.2.2)) (i*4+3) (.slice (te t).2.1 (te t).2.2.1 (te t).2.2.2);unfold fT at a;rw[tg (b.map te) i (te t) (by simpa using e)]at a;unfold nb fT;rw[List.map_set,List.length_set];exact a
theorem aW{w:World}{g b o:Nat}(c:b≠g)(v0 v1 v2 v3:Value):(cW w g o v0 v1 v2 v3).heap[b]?=w.heap[b]? :=by
 have d:g≠b:=λa=>c a.symm;simp[cW,World.setCell,bN,d]
theorem bq{w:World}{g o:Nat}(v0 v1 v2 v3:Value):(cW w g o v0 v1 v2 v3).heap.size=w.heap.size:=by simp[cW,World.setCell]
theorem D5{w:World}{g o:Nat}(v0 v1 v2 v3:Value):w.grownBy (cW w g o v0 v1 v2 v3) (some g):=
 ⟨rfl,rfl,rfl,dz (bq _ _ _ _).symm,λk _ b=>aW (λa=>b (by rw[a])) _ _ _ _⟩
theorem ET{w w':World}{v0 v1 v2 v3:Value}{t:TypeId}(c:Below (w.alloc (.cells #[v0,v1,v2,v3] t)).heap.size (w.alloc (.cells #[v0,v1,v2,v3] t)) w'):(w'.cell? ⟨w.heap.size,0,none⟩=some v0/\w'.cell? ⟨w.heap.size,1,none⟩=some v1/\w'.cell? ⟨w.heap.size,2,none⟩=some v2/\w'.cell? ⟨w.heap.size,3,none⟩=some v3)/\ (w'.frozen? ⟨w.heap.size,0,none⟩=false/\w'.frozen? ⟨w.heap.size,1,none⟩=false/\w'.frozen? ⟨w.heap.size,2,none⟩=false/\w'.frozen? ⟨w.heap.size,3,none⟩=false):=by
 have a:=λo=>c.cell (p:=⟨w.heap.size,o,none⟩) (by simp);have b:=λo=>c.frozen (p:=⟨w.heap.size,o,none⟩) (by simp);exact⟨⟨(a 0).trans (by simp[go_sem]),(a 1).trans (by simp[go_sem]),(a 2).trans (by simp[go_sem]),(a 3).trans (by simp[go_sem])⟩,(b 0).trans (by simp[go_sem]),(b 1).trans (by simp[go_sem]),(b 2).trans (by simp[go_sem]),(b 3).trans (by simp[go_sem])⟩
theorem nT{w1 w2:World}{q:Nat}{c d e f:Value}(b:q<w1.heap.size)(l:aj w1 w2)(k:w1.cell? ⟨q,0,none⟩=some c/\w1.cell? ⟨q,1,none⟩=some d/\w1.cell? ⟨q,2,none⟩=some e/\w1.cell? ⟨q,3,none⟩=some f):w2.cell? ⟨q,0,none⟩=some c/\w2.cell? ⟨q,1,none⟩=some d/\w2.cell? ⟨q,2,none⟩=some e/\w2.cell? ⟨q,3,none⟩=some f:=by
 obtain⟨g,h,i,j⟩:=k;have a:=ar l;exact⟨(a _ _ b).trans g,(a _ _ b).trans h,(a _ _ b).trans i,(a _ _ b).trans j⟩
def eM(base g c:Nat)(o:Option (List An))(w:World)(e:Ending)(w':World):Prop:=
 e=.returned (.bool o.isSome)/\w.grownBy w' (some g)/\∀b,o=some b->nb base g c b w'
def CQ(B:Nat)(w:World)(b:List An):Prop:=b.length=4/\∀y∈b,FS B w y/\aD y
theorem FS.below{B:Nat}{w w':World}(a:Below B w w'){x:An}(k:FS B w x):FS B w' x:=In.below a k
theorem CQ.below{B:Nat}{w w':World}(c:Below B w w'){b:List An}(k:CQ B w b):CQ B w' b:=⟨k.1,λy a=>⟨(k.2 y a).1.below c,(k.2 y a).2⟩⟩
theorem CQ.fit{B:Nat}{w:World}{b a:List An}(k:CQ B w b){n m:Nat}{p:Tm n}{t:Tm m}(f:In B w m t)(e:aD ⟨m,t⟩)(d:gZ n p m t b=some a):CQ B w a:=
 kU (λc=>FS B w c/\aD c) (Hl (KM B w) aU) n p m t ⟨f,e⟩ b a k d
def N7(n:Nat):Prop:=∀(p:Tm n)(m:Nat)(t:Tm m)(b:List An)(base g c B:Nat)(w:World),In B w n p->In B w m t->aD ⟨n,p⟩->aD ⟨m,t⟩->CQ B w b->B<=base->nb base g c b w->
 am 179 #[ae (some ⟨g,0,none⟩) 4 c,df n p,df m t] w (eM base g c (gZ n p m t b) w)
theorem uM(x y:Int)(w:World):am 196 #[ab x,ab y] w λe w'=>e=.returned (ab (nU x y))/\w'=w:=by
 go_enter func196,ntmps196;go_wp2
 all_goals go_ret
 all_goals refine⟨jl ?_,rfl⟩
 all_goals unfold nU
 all_goals (repeat' split)<;>omega
theorem JA(x y:ByteArray)(w:World):am 197 #[af x,af y] w λe w'=>e=.returned (ab (wG x y))/\w'=w:=by
 go_enter func197,ntmps197;go_wp2
 all_goals go_ret
 all_goals refine⟨jl ?_,rfl⟩
 all_goals unfold wG
 all_goals simp[*]
attribute [local go_sem ↓] Go.wp_at_zero Go.wp_at_succ
def F5(n:Nat):Prop:=∀(x:Tm n)(m:Nat)(y:Tm m)(B:Nat)(w:World),In B w n x->In B w m y->B<=w.heap.size->
 am 191 #[df n x,df m y] w λe w'=>e=.returned (ab (xO n x m y))/\aj w w'
theorem Md(p q:Nat)(a c:Option Addr)(pc d:Nat)(w:World)(_hpc:p<=9223372036854775807)(_hqc:q<=9223372036854775807)(b:((p:Int)==(q:Int))=false):am 198 #[ae a p pc,ae c q d] w λe w'=>e=.returned (ab (nU p q))/\w'=w:=by
 have f:((p:Int) !=(q:Int))=true:=by simpa using b
 go_enter func198,ntmps198;go_wp2_with (go_at_call 196;refine(uM _ _ _).mono ?_;rintro e w' ⟨rfl,rfl⟩)
 go_ret
 exact⟨rfl,rfl⟩
theorem Mc(n m:Nat)(ih:F5 n)(p:List (Tm n))(q:List (Tm m))(len:Nat)(M:Hid (p.length=len))(V:Hid (q.length=len))(g po h l pc X:Nat)(B:Nat)(w:World)(ah:len<=9223372036854775807)(T:g<B)(U:h<B)(L:∀(i:Nat)(y:Tm n),p[i]?=some y->dB w g (po+i*4) n y/\In B w n y)(N:∀(i:Nat)(y:Tm m),q[i]?=some y->dB w h (l+i*4) m y/\In B w m y)(o:B<=w.heap.size):am 198 #[ae (some ⟨g,po,none⟩) len pc,ae (some ⟨h,l,none⟩) len X] w λe w'=> e=.returned (ab (pG (λa b=>xO n a m b) p q))/\aj w w':=by
 go_enter func198,ntmps198;go_wp2_with fail;go_loopw [19] (λi wr=>∃k:Nat,k<=len/\i=ab k/\aj w wr/\Hid (pG (λa b=>xO n a m b) (p.drop k) (q.drop k)=pG (λa b=>xO n a m b) p q)) (λi _=>len-(intOf i).toNat)
 case atStart=>exact⟨0,by omega,rfl,ap _ _,rfl⟩
 case round=>
  obtain⟨k,aa,rfl,f,z⟩:=hrel;by_cases K:k<len
  ·obtain⟨c,A⟩:∃c,p[k]?=some c:=⟨p[k]'(by rw[M.out];exact K),aG _⟩;obtain⟨y,C⟩:∃y,q[k]?=some y:=⟨q[k]'(by rw[V.out];exact K),aG _⟩;obtain⟨s,t⟩:=L k c A;obtain⟨u,v⟩:=N k y C;have E:Hid (pG (λa b=>xO n a m b) (p.drop k) (q.drop k)=if xO n c m y=0 then pG (λa b=>xO n a m b) (p.drop (k+1)) (q.drop (k+1))else xO n c m y):=Hf (λa b=>xO n a m b) p q k c y A C;replace s:=s.below (f.mono o) T;replace u:=u.below (f.mono o) U;replace t:=t.below (f.mono o);replace v:=v.below (f.mono o);clear L N A C;cases n with
   | zero=>exact s.elim
   | succ n=>
   cases m with
   | zero=>exact u.elim
   | succ m=>
   obtain⟨al,an,ao,au⟩:=s;obtain⟨y0,y1,y2,av⟩:=u;have J:∀(d:World),In B d (n+1) c->In B d (m+1) y->B<=d.heap.size->am 191 #[.agg #[ab c.1.1,ab c.1.2.1,af c.1.2.2,ae c.2.1.1 c.2.2.length c.2.1.2],.agg #[ab y.1.1,ab y.1.2.1,af y.1.2.2,ae y.2.1.1 y.2.2.length y.2.1.2]] d λe w'=>e=.returned (ab (xO (n+1) c (m+1) y))/\aj d w':=λd P Q R=>ih c (m+1) y B d P Q R;have D:=aq J;clear J ih;have F:=aq t;have G:=aq v;clear t v;generalize xO (n+1) c (m+1) y=r at*;generalize c.2.2.length=Y at*;generalize y.2.2.length=yl at*;have ad:(0:Int)<=(k:Int):=by omega
   have ag:(k:Int)<(len:Int):=by omega
   have S:B<=wr.heap.size:=az o f.size;have O:=aq (D wr.drew (F.below (ap _ _).drew) (G.below (ap _ _).drew) S);have ai:g<wr.heap.size:=by omega
   have ak:h<wr.heap.size:=by omega
   clear D F G;go_wp2_with fail
   go_region_held3 (λw'=>w'.cell? ⟨g,po+k*4,none⟩=some (ab c.1.1)/\w'.cell? ⟨g,po+k*4+1,none⟩=some (ab c.1.2.1)/\w'.cell? ⟨g,po+k*4+2,none⟩=some (af c.1.2.2)/\w'.cell? ⟨g,po+k*4+3,none⟩=some (ae c.2.1.1 Y c.2.1.2)
       /\w'.cell? ⟨h,l+k*4,none⟩=some (ab y.1.1)/\w'.cell? ⟨h,l+k*4+1,none⟩=some (ab y.1.2.1)/\w'.cell? ⟨h,l+k*4+2,none⟩=some (af y.1.2.2)/\w'.cell? ⟨h,l+k*4+3,none⟩=some (ae y.2.1.1 yl y.2.1.2))
    (go_keep) ((go_at_call 191;refine O.mono ?_;rintro e d ⟨rfl,H⟩;have Z:=ar (cH H)))
   have I:aj w d:=f.trans ((cH H).mono f.size);by_cases j:r=0
   ·have x:Hid (r=0):=j;have W:(r !=0)=false:=by rw[j];rfl
    clear j;go_wp2_with fail;go_roundw
    case rel=>exact⟨k+1,by omega,by go_num,I,by rw[<-z.out,E.out,if_pos x.out];rfl⟩
    case measure=>simp[intOf];omega
   ·have x:Hid (¬r=0):=j;have W:(r !=0)=true:=by simpa using j
    clear j;go_wp2_with fail
    go_ret
    exact⟨jl (by rw[<-z.out,E.out,if_neg x.out]),I⟩
  ·go_wp2_with fail
   go_ret
   refine⟨jl ?_,f⟩;rw[<-z.out,gt (by rw[M.out];omega)];rfl
theorem AJ(n m:Nat)(a c:Option Addr)(pc d:Nat)(w:World):am 198 #[.slice a ([]:List (Tm n)).length pc,.slice c ([]:List (Tm m)).length d] w λe w'=>e=.returned (ab (pG (λa b=>xO n a m b) [] []))/\aj w w':=by
 show am 198 #[ae a 0 pc,ae c 0 d] w λe w'=>e=.returned (ab 0)/\aj w w';go_enter func198,ntmps198;go_wp2_with fail
 go_loop [19] (λf=>f=ab 0) (λ_=>0)
 case atStart=>rfl
 case round=>
  obtain rfl:=hrel;go_wp2_with fail
  go_ret
  exact⟨rfl,ap _ _⟩
theorem DR(w:World)(k b h i:Int)(s g:ByteArray)(a c:Option Addr)(pl f pc d:Nat)(e:¬k=b):am 191 #[.agg #[ab k,ab h,af s,ae a pl pc],.agg #[ab b,ab i,af g,ae c f d]] w λe w'=>e=.returned (ab (nU k b))/\aj w w':=by
 have j:(k !=b)=true:=by simpa using e
 clear e;go_enter func191,ntmps191;go_wp2_with (go_at_call 196;refine(uM _ _ _).mono ?_;rintro e w' ⟨rfl,rfl⟩)
 go_ret
 exact⟨rfl,((ap _ _).alloc (ak _) _).alloc (by simp) _⟩
theorem sE(w:World)(k d f:Int)(s c:ByteArray)(a g:Option Addr)(pl i pc h:Nat)(r:Int)(b:k=1\/k=3\/k=5):am 191 #[.agg #[ab k,ab d,af s,ae a pl pc],.agg #[ab k,ab f,af c,ae g i h]] w λe w'=>e=.returned (ab (if k=1\/k=3\/k=5 then nU d f else if k=2 then wG s c else if k=4 then r else 0))/\aj w w':=by
 rw[if_pos b];rcases b with rfl|rfl|rfl
 all_goals
  go_enter func191,ntmps191;go_wp2_with (go_at_call 196;refine(uM _ _ _).mono ?_;rintro e w' ⟨rfl,rfl⟩)
  go_ret
  exact⟨rfl,((ap _ _).alloc (ak _) _).alloc (by simp) _⟩
theorem Hh(w:World)(g h:Int)(s b:ByteArray)(a c:Option Addr)(pl f pc d:Nat):am 191 #[.agg #[ab 2,ab g,af s,ae a pl pc],.agg #[ab 2,ab h,af b,ae c f d]] w λe w'=>e=.returned (ab (wG s b))/\aj w w':=by
 go_enter func191,ntmps191;go_wp2_with (go_at_call 197;refine(JA _ _ _).mono ?_;rintro e w' ⟨rfl,rfl⟩)
 go_ret
 exact⟨rfl,((ap _ _).alloc (ak _) _).alloc (by simp) _⟩
theorem DQ(w:World)(k m n:Int)(s l:ByteArray)(a h:Option Addr)(pl j pc i:Nat)(b:¬k=1)(c:¬k=2)(d:¬k=3)(f:¬k=4)(g:¬k=5):am 191 #[.agg #[ab k,ab m,af s,ae a pl pc],.agg #[ab k,ab n,af l,ae h j i]] w λe w'=>e=.returned (ab 0)/\aj w w':=by
 have o:(k==1)=false:=by simpa using b
 have p:(k==2)=false:=by simpa using c
 have q:(k==3)=false:=by simpa using d
 have r:(k==4)=false:=by simpa using f
 have t:(k==5)=false:=by simpa using g
 clear b c d f g;go_enter func191,ntmps191;go_wp2_with fail
 go_ret
 exact⟨rfl,((ap _ _).alloc (ak _) _).alloc (by simp) _⟩
theorem Hi(w:World)(j k:Int)(s i:ByteArray)(a b:Option Addr)(pl f pc d:Nat)(r:Int)(c:∀w1:World,aj w w1->am 198 #[ae a pl pc,ae b f d] w1 λe w'=>e=.returned (ab r)/\aj w1 w'):am 191 #[.agg #[ab 4,ab j,af s,ae a pl pc],.agg #[ab 4,ab k,af i,ae b f d]] w λe w'=>e=.returned (ab r)/\aj w w':=by
 have g:=aq c;clear c;go_enter func191,ntmps191;go_wp2_with fail;refine(g _ (((ap _ _).alloc (ak _) _).alloc (by simp) _)).mono ?_;rintro e w' ⟨rfl,h⟩;go_wp2_with fail
 go_ret
 exact⟨rfl,(((ap _ _).alloc (ak _) _).alloc (by simp) _).trans (h.mono (by simp;omega))⟩
theorem Hg(n:Nat):F5 n:=by
 induction n with
 | zero=>intro U h t H g G;exact G.elim
 | succ n ih=>
  intro U h t H g G r w;cases h with
  | zero=>exact r.elim
  | succ h=>
  obtain⟨⟨k,l,i⟩,⟨a,pc⟩,c⟩:=U;obtain⟨⟨z,m,j⟩,⟨f,e⟩,d⟩:=t;obtain⟨⟨M,Y,S,P,E⟩,p⟩:=G;obtain⟨⟨N,Z,T,R,F⟩,q⟩:=r;simp only at M Y S P E p N Z T R F q
  show am 191 #[.agg #[ab k,ab l,af i,ae a c.length pc],.agg #[ab z,ab m,af j,ae f d.length e]] g λo B=>o=.returned (ab (if k=z then
   if k=1\/k=3\/k=5 then nU l m else if k=2 then wG i j else if k=4 then if c.length=d.length then pG (λa b=>xO n a h b) c d else nU c.length d.length
   else 0 else nU k z))/\aj g B
  have V:∀s:World,aj g s->am 198 #[ae a c.length pc,ae f d.length e] s λo B=>o=.returned (ab (if c.length=d.length then pG (λa b=>xO n a h b) c d else nU c.length d.length))/\aj s B:=by
   intro s x;unfold maxLen at E F;by_cases u:c.length=d.length
   ·rw[if_pos u];rcases p with p|⟨aa,po,rfl,O,p⟩
    ·subst p;have X:d=[]:=bF u.symm;subst X;exact AJ n h a f pc e s
    ·rcases q with q|⟨ad,ag,rfl,Q,q⟩
     ·subst q;have W:c=[]:=bF u;subst W;exact AJ n h _ f pc e s
     ·have L:=Mc n h ih c d c.length rfl u.symm aa po ad ag pc e H s (by omega) O Q (λy t r=>⟨(p y t r).1.below (x.mono w) O,(p y t r).2.below (x.mono w)⟩)
        (λy t r=>⟨(q y t r).1.below (x.mono w) Q,(q y t r).2.below (x.mono w)⟩) (az w x.size)
      rw[u]at L;rw[u];exact L
   ·rw[if_neg u];refine(Md c.length d.length a f pc e s (by omega) (by omega) (by simp;omega)).mono ?_;rintro o B ⟨rfl,rfl⟩;exact⟨rfl,ap _ _⟩
  generalize (if c.length=d.length then pG (λa b=>xO n a h b) c d else nU c.length d.length)=A at*;clear p q ih P E R F S T w;generalize c.length=pl at*;generalize d.length=v at*;obtain⟨ak,an⟩:=M;obtain⟨al,ao⟩:=N;by_cases o:k=z
  ·subst o;rw[if_pos rfl];by_cases I:k=1
   ·subst I;exact sE g 1 l m i j a f pl v pc e A (ah rfl)
   by_cases J:k=3
   ·subst J;exact sE g 3 l m i j a f pl v pc e A (ai (ah rfl))
   by_cases K:k=5
   ·subst K;exact sE g 5 l m i j a f pl v pc e A (ai (ai rfl))
   rw[if_neg (by omega)];by_cases C:k=2
   ·subst C;exact Hh g l m i j a f pl v pc e
   rw[if_neg C];by_cases D:k=4
   ·subst D;exact Hi g l m i j a f pl v pc e A V
   rw[if_neg D];exact DQ g k l m i j a f pl v pc e I C J D K
  ·rw[if_neg o];exact DR g k z l m i j a f pl v pc e o
theorem js(k b:Int)(s:ByteArray)(a:Option Addr)(l c:Nat)(w:World):am 188 #[.agg #[ab k,ab b,af s,ae a l c]] w λe w'=>e=.returned (.bool (!(k==6)))/\aj w w':=by
 cases h:k==6
 all_goals
  go_enter func188,ntmps188;go_wp2_with fail
  go_ret
  exact⟨eS (by simp[bne,h]),(ap _ _).alloc (ak _) _⟩
theorem BU(x:An)(y:An)(B:Nat)(w:World)(d:FS B w x)(f:FS B w y)(b:B<=w.heap.size)(g:aD x)(h:aD y):am 191 #[df x.1 x.2,df y.1 y.2] w λe w'=>∃r,e=.returned (ab r)/\Hid ((r==0)=ee x y)/\aj w w':=by
 refine(Hg x.1 x.2 y.1 y.2 B w d f b).mono ?_;rintro e w' ⟨rfl,c⟩;refine⟨_,rfl,?_,c⟩;have a:=BT x.1 x.2 y.1 y.2 g h;unfold Hid ee;cases hs:ay x.1 x.2 y.1 y.2
 ·rw[hs]at a;simp only[pf,iff_false]at a;simpa using a
 ·rw[hs]at a;simp only[iff_true]at a;simpa using a
theorem J7(b:List An)(base g c B:Nat)(w:World)(k:Nat)(K:k<4)(m:Nat)(t:Tm (m+1))(y:CQ B w b)(M:In B w (m+1) t)(L:aD ⟨m+1,t⟩)(U:B<=base)(H:nb base g c b w):am 189 #[ae (some ⟨g,0,none⟩) 4 c,ab k,.agg #[ab t.1.1,ab t.1.2.1,af t.1.2.2,ae t.2.1.1 t.2.2.length t.2.1.2]] w (eM base g c (uW b k ⟨m+1,t⟩) w):=by
 obtain⟨a,v⟩:∃a,b[k]?=some a:=⟨b[k]'(by rw[y.1];exact K),aG _⟩;obtain⟨E,N⟩:=y.2 a (aH v);obtain⟨n,a⟩:=a;cases n with
 | zero=>exact E.elim
 | succ n=>
 have D:Hid (uW b k ⟨m+1,t⟩=if a.1.1=6 then some (b.set k ⟨m+1,t⟩)else if ee ⟨n+1,a⟩ ⟨m+1,t⟩then some b else none):=by simp only[Hid,uW,v,bU];rfl
 obtain⟨j,l,p,q⟩:=H.cells k _ v;simp only[te,gg,bw]at j l p q;have Z:(0:Int)<=(k:Int):=by omega
 have aa:(k:Int)<4:=by omega
 have A:=aq H;have I:=aq v;have R:g<w.heap.size:=H.lt.2;clear v H;generalize uW b k ⟨m+1,t⟩=o at*;cases h6:a.1.1==6
 case true=>
  go_enter func189,ntmps189;go_wp2_with fail;refine(js _ _ _ _ _ _ _).mono ?_;rintro h e ⟨rfl,d⟩;have f:=aq d;clear j l p q;have r:Hid (nb base g c b e):=(A.kept (dd w _ none) (by simp)).below d;have W:=λS=>r.free S;obtain⟨⟨t0,t1,t2,t3⟩,_⟩:=ET d;obtain⟨j,l,p,q⟩:=r.out.cells k _ I;simp only[te,gg,bw]at j l p q;clear d;go_wp2_with fail
  go_ret
  have s:o=some (b.set k ⟨m+1,t⟩):=by rw[D.out,if_pos (by simpa using h6)]
  subst s;exact⟨rfl,lD (cO (((ap _ _).alloc (ak _) _).trans (f.mono (by simp))) _) (D5 _ _ _ _),λJ h=>by obtain rfl:=aw h;exact r.put k ⟨m+1,t⟩ (by rw[y.1];exact K)⟩
 case false=>
  go_enter func189,ntmps189;go_wp2_with fail;refine(js _ _ _ _ _ _ _).mono ?_;rintro h e ⟨rfl,d⟩;clear j l p q;have f:Hid (aj w e):=((ap _ _).alloc (ak _) _).trans (d.mono (by simp));have r:Hid (nb base g c b e):=(A.kept (dd w _ none) (by simp)).below d;obtain⟨⟨t0,t1,t2,t3⟩,_⟩:=ET d;obtain⟨j,l,p,q⟩:=r.out.cells k _ I;simp only[te,gg,bw]at j l p q;have z:Hid (B<=w.heap.size):=by have:=A.lt;unfold Hid;omega
  have P:Hid (w.heap.size<e.heap.size):=by have:=d.size;simp at this;unfold Hid;omega
  have F:Hid (FS B e ⟨n+1,a⟩/\FS B e ⟨m+1,t⟩):=⟨E.below (f.mono z),FS.below (x:=⟨m+1,t⟩) (f.mono z) M⟩;have Q:=aq (BU ⟨n+1,a⟩ ⟨m+1,t⟩ B e.drew (F.1.below (ap _ _).drew) (F.2.below (ap _ _).drew) (az z f.size) N L);clear d M E y N L;go_wp2_with fail
  go_region_held3 (λi=>i.cell? ⟨g,k*4,none⟩=some (ab a.1.1)/\i.cell? ⟨g,k*4+1,none⟩=some (ab a.1.2.1)/\i.cell? ⟨g,k*4+2,none⟩=some (af a.1.2.2)/\i.cell? ⟨g,k*4+3,none⟩=some (ae a.2.1.1 a.2.2.length a.2.1.2)
        /\i.cell? ⟨w.heap.size,0,none⟩=some (ab t.1.1)/\i.cell? ⟨w.heap.size,1,none⟩=some (ab t.1.2.1)/\i.cell? ⟨w.heap.size,2,none⟩=some (af t.1.2.2)/\i.cell? ⟨w.heap.size,3,none⟩=some (ae t.2.1.1 t.2.2.length t.2.1.2))
      (go_keep) ((go_at_call 191;refine Q.mono ?_;rintro h O ⟨T,rfl,G,u⟩;have V:=ar (cH u);have X:g<e.heap.size:=aR R f.size;have Y:w.heap.size<e.heap.size:=P.out))
  replace u:=cH u;have C:Hid (w.grownBy O (some g)/\nb base g c b O):=⟨cO (f.trans (u.mono f.size)) _,r.below u⟩;have s:o=if ee ⟨n+1,a⟩ ⟨m+1,t⟩then some b else none:=by rw[D.out,if_neg (by simpa using h6)]
  rw[<-G.out]at s;clear G D;cases h0:T==0
  all_goals
   rw[h0]at s;go_wp2_with fail
   go_ret
   simp only[pf,if_false,cF]at s;subst s
  ·exact⟨rfl,C.1,λJ h=>by cases h⟩
  ·exact⟨rfl,C.1,λJ h=>by obtain rfl:=aw h;exact C.2⟩
def Lb(x:Nd):Bool:= !(x.1.1==5) && !(x.1.1==6)
def jZ(n:Nat)(x:Tm n):Bool:=(ax n x).all Lb
def aK:(n:Nat)->Tm n->Bool
 | 0,_=>true
 | n+1,x=> !(x.1.1==5) && !(x.1.1==6) && x.2.2.all λy=>aK n y
theorem fw:(n:Nat)->(x:Tm n)->aK n x=jZ n x
 | 0,_=>by simp[aK,jZ,ax,Lb]
 | n+1,x=>by
  have key:∀l:List (Tm n),(l.all λy=>aK n y)=(l.flatMap λy=>ax n y).all Lb:=by
   intro l
   induction l with
   | nil=>rfl
   | cons y l ih=>
    have:=fw n y;unfold jZ at this;simp only[ip,bz,jg,ih,this]
  show (!(x.1.1==5) && !(x.1.1==6) && x.2.2.all λy=>aK n y)=(Lb (x.1,(x.2.1.1,x.2.2.length,x.2.1.2)) && (x.2.2.flatMap λy=>ax n y).all Lb);rw[key];rfl
def Pg(n:Nat):Prop:=∀(x:Tm n)(B:Nat)(w:World),In B w n x->B<=w.heap.size->
 am 75 #[df n x] w λe w'=>e=.returned (.bool (aK n x))/\aj w w'
theorem AX(n:Nat)(ih:Pg n)(h I:Int)(s:ByteArray)(a:Option Addr)(pc len:Nat)(p:List (Tm n))(C:Hid (p.length=len))(B:Nat)(w:World)(g:Hid (p=[]\/∃b o,a=some ⟨b,o,none⟩/\b<B/\∀(i:Nat)(y:Tm n),p[i]?=some y->dB w b (o+i*4) n y/\In B w n y))(M:len<=9223372036854775807)(r:B<=w.heap.size):am 75 #[.agg #[ab h,ab I,af s,ae a len pc]] w λe w'=>e=.returned (.bool (!(h==5) && !(h==6) && p.all λy=>aK n y))/\aj w w':=by
 cases h5:h==5
 case true=>
  go_enter func75,ntmps75;go_wp2_with fail
  go_ret
  exact⟨bS (by simp),(ap _ _).alloc (ak _) _⟩
 cases h6:h==6
 case true=>
  go_enter func75,ntmps75;go_wp2_with fail
  go_ret
  exact⟨bS (by simp),(ap _ _).alloc (ak _) _⟩
 have v:(!false && !false && p.all λy=>aK n y)=p.all λy=>aK n y:=by simp
 rw[v];clear v;go_enter func75,ntmps75;go_wp2_with fail;go_loopw [16] (λi wr=>∃k:Nat,k<=len/\i=ab k/\aj w wr/\Hid (((p.drop k).all λy=>aK n y)=p.all λy=>aK n y)) (λi _=>len-(intOf i).toNat)
 case atStart=>exact⟨0,by omega,rfl,(ap _ _).alloc (ak _) _,rfl⟩
 case round=>
  obtain⟨k,J,rfl,d,t⟩:=hrel;by_cases F:k<len
  ·obtain⟨c,l⟩:∃c,p[k]?=some c:=⟨p[k]'(by rw[C.out];exact F),aG _⟩;have u:Hid (((p.drop k).all λy=>aK n y)=(aK n c && (p.drop (k+1)).all λy=>aK n y)):=by
    obtain⟨j,E⟩:=aO.1 l;rw[eA j,E];rfl
   rcases g.out with g|⟨N,po,rfl,G,g⟩
   ·subst g;simp at l
   obtain⟨m,q⟩:=g k c l;replace m:=m.below (d.mono r) G;replace q:=q.below (d.mono r);clear g l;cases n with
   | zero=>exact m.elim
   | succ n=>
   obtain⟨O,P,Q,R⟩:=m;have x:B<=wr.heap.size:=az r d.size
   have D:Hid (∀f,aj wr f->am 75 #[.agg #[ab c.1.1,ab c.1.2.1,af c.1.2.2,ae c.2.1.1 c.2.2.length c.2.1.2]] f λe w'=>e=.returned (.bool (aK (n+1) c))/\aj f w'):=
    λf j=>ih c B f (q.below (j.mono x)) (az x j.size)
   clear ih q;generalize c.2.2.length=S at*;generalize aK (n+1) c=H at*;have K:(0:Int)<=(k:Int):=by omega
   have L:(k:Int)<(len:Int):=by omega
   go_wp2_with fail;refine(D _ ((ap _ _).alloc (ak _) _)).mono ?_;rintro e f ⟨rfl,z⟩;have A:aj w f:=(d.trans (((ap _ _).alloc (ak _) _).mono d.size)).trans (z.mono (by have:=d.size;simp;omega));clear z;cases H with
   | true=>
    go_wp2_with fail;go_roundw
    case rel=>exact⟨k+1,by omega,by go_num,A,by rw[<-t.out,u.out];rfl⟩
    case measure=>simp[intOf];omega
   | false=>
    go_wp2_with fail
    go_ret
    exact⟨bS (by rw[<-t.out,u.out];rfl),A⟩
  ·go_wp2_with fail
   go_ret
   refine⟨bS ?_,d⟩;rw[<-t.out,gt (by rw[C.out];omega)];rfl
theorem iH(n:Nat):Pg n:=by
 induction n with
 | zero=>intro g b f a;exact a.elim
 | succ n ih=>
  intro g b f a i;obtain⟨⟨k,m,l⟩,⟨h,pc⟩,e⟩:=g;obtain⟨⟨_,_,_,j,d⟩,c⟩:=a;simp only at j d c;unfold maxLen at d;exact AX n ih k m l h pc e.length e rfl b f c (by omega) i
def fA:(n:Nat)->Tm n->Int
 | 0,_=>0
 | n+1,x=>if x.1.1=4 then 1+x.2.2.foldl (λm y=>max m (fA n y)) 0 else 0
def sY(n:Nat)(p:List (Tm n))(k:Nat):Int:=(p.take k).foldl (λm y=>max m (fA n y)) 0
theorem Db(n:Nat)(p:List (Tm n))(k:Nat)(x:Tm n)(b:p[k]?=some x):sY n p (k+1)=max (sY n p k) (fA n x):=by
 obtain⟨c,a⟩:=aO.1 b;unfold sY;rw[kJ c,a,jD];rfl
theorem qi{n:Nat}(N:Int):(l:List (Tm n))->(m:Int)->0<=m->m<=N->(∀y∈l,0<=fA n y/\fA n y<=N)->0<=l.foldl (λm y=>max m (fA n y)) m/\l.foldl (λm y=>max m (fA n y)) m<=N
 | [],_,h0,h1,_=>⟨h0,h1⟩
 | y::l,m,h0,h1,h=>by
  have c:=h y (by simp);exact qi N l (max m (fA n y)) (by omega) (by omega) (λb a=>h b (by simp[a]))
theorem kh{n:Nat}(l:List (Tm n))(y:Tm n)(c:y∈l):(ax n y).length<=(l.flatMap λy=>ax n y).length:=by
 obtain⟨a,d⟩:=cM c;have b:=FI (λy=>ax n y) l (a+1);rw[Im _ l a y d,bk]at b;omega
theorem fV:(n:Nat)->(x:Tm n)->0<=fA n x/\fA n x<=(ax n x).length
 | 0,_=>by simp[fA]
 | n+1,x=>by
  have e:=qi ((x.2.2.flatMap λy=>ax n y).length:Int) x.2.2 0 (by omega) (by omega) (λy b=>by
   have c:=fV n y;have d:=kh x.2.2 y b
   omega)
  simp only[fA,ax,bf];by_cases a:x.1.1=4
  ·rw[if_pos a];omega
  ·rw[if_neg a];omega
theorem A3(n:Nat)(p:List (Tm n))(k:Nat):0<=sY n p k/\sY n p k<=(p.flatMap λy=>ax n y).length:=
 qi _ (p.take k) 0 (by omega) (by omega) (λy a=>by
  have b:=fV n y;have c:=kh p y (List.mem_of_mem_take a)
  omega)
def Ph(n:Nat):Prop:=∀(x:Tm n)(B:Nat)(w:World),In B w n x->B<=w.heap.size->(ax n x).length<=2097152->
 am 53 #[df n x] w λe w'=>e=.returned (ab (fA n x))/\aj w w'
theorem Dc(b d:Int)(s:ByteArray)(a:Option Addr)(len pc:Nat)(w:World)(c:¬b=4):am 53 #[.agg #[ab b,ab d,af s,ae a len pc]] w λe w'=>e=.returned (ab 0)/\aj w w':=by
 have f:(b !=4)=true:=by simpa using c
 clear c;go_enter func53,ntmps53;go_wp2_with fail
 go_ret
 exact⟨rfl,(ap _ _).alloc (ak _) _⟩
theorem Gq(n:Nat)(ih:Ph n)(P:Int)(s:ByteArray)(a:Option Addr)(pc len:Nat)(p:List (Tm n))(E:Hid (p.length=len))(B:Nat)(w:World)(h:Hid (p=[]\/∃b o,a=some ⟨b,o,none⟩/\b<B/\∀(i:Nat)(y:Tm n),p[i]?=some y->dB w b (o+i*4) n y/\In B w n y))(T:len<=9223372036854775807)(u:B<=w.heap.size)(O:Hid (1+(p.flatMap λy=>ax n y).length<=2097152)):am 53 #[.agg #[ab 4,ab P,af s,ae a len pc]] w λe w'=> e=.returned (ab (1+p.foldl (λm y=>max m (fA n y)) 0))/\aj w w':=by
 go_enter func53,ntmps53;go_wp2_with fail;go_loopw [3,12] (λt i wr=>∃k:Nat,∃d:Int,k<=len/\i=ab k/\t=ab d/\Hid (d=sY n p k)/\aj w wr) (λ_ i _=>len-(intOf i).toNat)
 case atStart=>exact⟨0,0,by omega,rfl,rfl,by simp[Hid,sY],(ap _ _).alloc (ak _) _⟩
 case round=>
  obtain⟨k,d,Q,rfl,rfl,v,f⟩:=hrel;have r:=A3 n p k;rw[<-v.out]at r;have K:=O.out;have V:0<=d:=r.1;have W:d<=2097152:=by omega
  clear r;by_cases M:k<len
  ·obtain⟨c,j⟩:∃c,p[k]?=some c:=⟨p[k]'(by rw[E.out];exact M),aG _⟩;have I:=aq (Db n p k c j);have J:=kh p c (aH j);have F:(ax n c).length<=2097152:=by omega
   clear J K;rcases h.out with h|⟨U,po,rfl,N,h⟩
   ·subst h;simp at j
   obtain⟨l,q⟩:=h k c j;replace l:=l.below (f.mono u) N;replace q:=q.below (f.mono u);clear h j;cases n with
   | zero=>exact l.elim
   | succ n=>
   obtain⟨X,Y,Z,aa⟩:=l;have A:B<=wr.heap.size:=az u f.size
   have G:Hid (∀g,aj wr g->am 53 #[.agg #[ab c.1.1,ab c.1.2.1,af c.1.2.2,ae c.2.1.1 c.2.2.length c.2.1.2]] g λe w'=>e=.returned (ab (fA (n+1) c))/\aj g w'):=
    λg z=>ih c B g (q.below (z.mono A)) (az A z.size) F
   clear ih q F;generalize c.2.2.length=ad at*;generalize fA (n+1) c=x at*;have R:(0:Int)<=(k:Int):=by omega
   have S:(k:Int)<(len:Int):=by omega
   go_wp2_with fail;refine(G _ ((ap _ _).alloc (ak _) _)).mono ?_;rintro e g ⟨rfl,C⟩;have L:aj w g:=(f.trans (((ap _ _).alloc (ak _) _).mono f.size)).trans (C.mono (by have:=f.size;simp;omega));clear C;have D:max d x=if d<x then x else d:=by split<;>omega
   have H:=aq D;clear D;go_wp2_with fail;go_roundw
   case rel=>exact⟨k+1,_,by omega,by go_num,rfl,by simp only[Hid];rw[I.out,<-v.out,H.out],L⟩
   case measure=>simp[intOf];omega
  ·go_wp2_with fail
   go_ret
   refine⟨jl ?_,f⟩;rw[v.out];unfold sY;rw[bu (by rw[E.out];omega)]
theorem Gp(n:Nat):Ph n:=by
 induction n with
 | zero=>intro o i b g;exact g.elim
 | succ n ih=>
  intro o i b g q m;obtain⟨⟨k,e,d⟩,⟨c,pc⟩,a⟩:=o;obtain⟨⟨_,_,_,s,l⟩,j⟩:=g;simp only at s l j;unfold maxLen at l;have r:(ax (n+1) ((k,e,d),(c,pc),a)).length=1+(a.flatMap λh=>ax n h).length:=by simp only[ax,bf];omega
  rw[r]at m;show am 53 #[.agg #[ab k,ab e,af d,ae c a.length pc]] b λp u=>p=.returned (ab (if k=4 then 1+a.foldl (λt h=>max t (fA n h)) 0 else 0))/\aj b u;by_cases f:k=4
  ·subst f;exact Gq n ih e d c pc a.length a rfl i b j (by omega) q m
  ·rw[if_neg f];exact Dc k e d c a.length pc b f
def pR(n:Nat)(p:List (Tm n))(k:Nat):Int:=1+p.length+((p.take k).map λy=>sz n y).sum
theorem EA(n:Nat)(p:List (Tm n))(k:Nat)(x:Tm n)(b:p[k]?=some x):pR n p (k+1)=pR n p k+sz n x:=by
 obtain⟨c,a⟩:=aO.1 b;unfold pR;rw[kJ c,a];simp;omega
theorem Ik(n:Nat)(l:List (Tm n)):(l.map λy=>1+sz n y).sum=l.length+(l.map λy=>sz n y).sum:=by
 induction l with
 | nil=>simp
 | cons y l ih=>simp only[aM,bA,bf,ih];omega
theorem IH(n:Nat)(p:List (Tm n))(k:Nat)(a:p.length<=k):pR n p k=1+(p.map λy=>1+sz n y).sum:=by
 unfold pR;rw[bu a,Ik];omega
theorem xD(n:Nat)(p:List (Tm n)):p.length<=(p.flatMap λy=>ax n y).length:=by
 induction p with
 | nil=>simp
 | cons y l ih=>
  have:1<=(ax n y).length:=by cases n<;>simp[ax]
  simp only[bz,bk,bf];omega
theorem Cw(n:Nat)(p:List (Tm n))(k:Nat):0<=pR n p k/\pR n p k<=3*(1+(p.flatMap λy=>ax n y).length:Int):=by
 have b:=xD n p;have a:=FI (λy=>ax n y) p k;have key:∀l:List (Tm n),0<=(l.map λy=>sz n y).sum/\(l.map λy=>sz n y).sum<=2*((l.flatMap λy=>ax n y).length:Int):=by
  intro l
  induction l with
  | nil=>exact⟨by simp,by simp⟩
  | cons y l ih=>
   have c:=eT n y;simp only[aM,bA,bz,bk];exact⟨by omega,by omega⟩
 have k:=key (p.take k);unfold pR;exact⟨by omega,by omega⟩
def Qn(n:Nat):Prop:=∀(x:Tm n)(B:Nat)(w:World),In B w n x->B<=w.heap.size->(ax n x).length<=2097152->
 am 54 #[df n x] w λe w'=>e=.returned (ab (sz n x))/\aj w w'
theorem Ey(b d:Int)(s:ByteArray)(a:Option Addr)(len pc:Nat)(w:World)(c:¬b=4):am 54 #[.agg #[ab b,ab d,af s,ae a len pc]] w λe w'=>e=.returned (ab 0)/\aj w w':=by
 have f:(b !=4)=true:=by simpa using c
 clear c;go_enter func54,ntmps54;go_wp2_with fail
 go_ret
 exact⟨rfl,(ap _ _).alloc (ak _) _⟩
theorem IG(n:Nat)(ih:Qn n)(M:Int)(s:ByteArray)(a:Option Addr)(pc len:Nat)(p:List (Tm n))(l:Hid (p.length=len))(B:Nat)(w:World)(g:Hid (p=[]\/∃b o,a=some ⟨b,o,none⟩/\b<B/\∀(i:Nat)(y:Tm n),p[i]?=some y->dB w b (o+i*4) n y/\In B w n y))(v:B<=w.heap.size)(D:Hid (1+(p.flatMap λy=>ax n y).length<=2097152)):am 54 #[.agg #[ab 4,ab M,af s,ae a len pc]] w λe w'=> e=.returned (ab (1+(p.map λy=>1+sz n y).sum))/\aj w w':=by
 have S:len<=2097152:=by have u:=xD n p;have O:=D.out;rw[<-l.out];omega
 go_enter func54,ntmps54;go_wp2_with fail;go_loopw [3,16] (λt i wr=>∃k:Nat,∃h:Int,k<=len/\i=ab k/\t=ab h/\Hid (h=pR n p k)/\aj w wr) (λ_ i _=>len-(intOf i).toNat)
 case atStart=>exact⟨0,1+len,by omega,rfl,rfl,by simp only[Hid,pR];rw[l.out];simp,(ap _ _).alloc (ak _) _⟩
 case round=>
  obtain⟨k,h,P,rfl,rfl,x,d⟩:=hrel;have r:=Cw n p k;rw[<-x.out]at r;have I:=D.out;have U:0<=h:=r.1;have V:h<=6291456:=by omega
  clear r;by_cases K:k<len
  ·obtain⟨c,j⟩:∃c,p[k]?=some c:=⟨p[k]'(by rw[l.out];exact K),aG _⟩;have G:=aq (EA n p k c j);have H:=kh p c (aH j);have E:(ax n c).length<=2097152:=by omega
   have z:=eT n c;have ad:0<=sz n c:=z.1;have ag:sz n c<=4194304:=by omega
   clear H I z;rcases g.out with g|⟨T,po,rfl,L,g⟩
   ·subst g;simp at j
   obtain⟨m,q⟩:=g k c j;replace m:=m.below (d.mono v) L;replace q:=q.below (d.mono v);clear g j;cases n with
   | zero=>exact m.elim
   | succ n=>
   obtain⟨W,X,Y,Z⟩:=m;have A:B<=wr.heap.size:=az v d.size
   have F:Hid (∀f,aj wr f->am 54 #[.agg #[ab c.1.1,ab c.1.2.1,af c.1.2.2,ae c.2.1.1 c.2.2.length c.2.1.2]] f λe w'=>e=.returned (ab (sz (n+1) c))/\aj f w'):=
    λf u=>ih c B f (q.below (u.mono A)) (az A u.size) E
   clear ih q E;generalize c.2.2.length=aa at*;generalize sz (n+1) c=N at*;have Q:(0:Int)<=(k:Int):=by omega
   have R:(k:Int)<(len:Int):=by omega
   go_wp2_with fail;refine(F _ ((ap _ _).alloc (ak _) _)).mono ?_;rintro e f ⟨rfl,C⟩;have J:aj w f:=(d.trans (((ap _ _).alloc (ak _) _).mono d.size)).trans (C.mono (by have:=d.size;simp;omega));clear C;go_wp2_with fail;go_roundw
   case rel=>exact⟨k+1,h+N,by omega,by go_num,by go_num,by simp only[Hid];rw[G.out,<-x.out],J⟩
   case measure=>simp[intOf];omega
  ·go_wp2_with fail
   go_ret
   refine⟨jl ?_,d⟩;rw[x.out,IH n p k (by rw[l.out];omega)]
theorem yu(n:Nat):Qn n:=by
 induction n with
 | zero=>intro m i b g;exact g.elim
 | succ n ih=>
  intro m i b g p l;obtain⟨⟨k,e,d⟩,⟨c,pc⟩,a⟩:=m;obtain⟨⟨_,_,_,s,r⟩,j⟩:=g;simp only at s r j;have q:(ax (n+1) ((k,e,d),(c,pc),a)).length=1+(a.flatMap λh=>ax n h).length:=by simp only[ax,bf];omega
  rw[q]at l;show am 54 #[.agg #[ab k,ab e,af d,ae c a.length pc]] b λo t=>o=.returned (ab (if k=4 then 1+(a.map λh=>1+sz n h).sum else 0))/\aj b t;by_cases f:k=4
  ·subst f;exact IG n ih e d c pc a.length a rfl i b j p l
  ·rw[if_neg f];exact Ey k e d c a.length pc b f
theorem Ct(w:World)(k g:Int)(s:ByteArray)(a:Option Addr)(l c:Nat)(j:Bool)(d n:Int)(D:Hid (∀w1,aj w w1->am 52 #[.agg #[ab k,ab g,af s,ae a l c]] w1 λe w'=>e=.returned (.bool j)/\aj w1 w'))(C:Hid (∀w1,aj w w1->am 53 #[.agg #[ab k,ab g,af s,ae a l c]] w1 λe w'=>e=.returned (ab d)/\aj w1 w'))(E:Hid (∀w1,aj w w1->am 54 #[.agg #[ab k,ab g,af s,ae a l c]] w1 λe w'=>e=.returned (ab n)/\aj w1 w')):am 23 #[.agg #[ab k,ab g,af s,ae a l c]] w λe w'=>e=.returned (ab (if j then if 12<d\/200<n then 2 else 0 else 5))/\aj w w':=by
 generalize A:(if j then if 12<d\/200<n then (2:Int)else 0 else 5)=I;have i:=aq A;clear A;go_enter func23,ntmps23;go_wp2_with fail;refine(D _ ((ap _ _).alloc (ak _) _)).mono ?_;rintro e w1 ⟨rfl,m⟩;have f:Hid (aj w w1/\w.heap.size+1<=w1.heap.size):=⟨((ap _ _).alloc (ak _) _).trans (m.mono (by simp)),by have:=m.size;simpa using this⟩;have b:=ar m;simp only[iy]at b;have t:=(b w.heap.size 0 (by omega)).trans (by simp[go_sem]:_=some (Value.int .i64 k));have u:=(b w.heap.size 1 (by omega)).trans (by simp[go_sem]:_=some (Value.int .i64 g));have v:=(b w.heap.size 2 (by omega)).trans (by simp[go_sem]:_=some (Value.string s));have x:=(b w.heap.size 3 (by omega)).trans (by simp[go_sem]:_=some (Value.slice a l c));clear b m;cases j with
 | false=>
  go_wp2_with fail
  go_ret
  exact⟨jl (by rw[<-i.out];rfl),f.1⟩
 | true=>
  go_wp2_with fail;refine(C _ f.1).mono ?_;rintro e G ⟨rfl,q⟩;have h:Hid (aj w G):=f.1.trans (q.mono f.1.size);have b:=ar q;have F:=f.2;replace t:=(b w.heap.size 0 (by omega)).trans t;replace u:=(b w.heap.size 1 (by omega)).trans u;replace v:=(b w.heap.size 2 (by omega)).trans v;replace x:=(b w.heap.size 3 (by omega)).trans x;clear b q F;by_cases y:12<d
  ·have o:=aq y;go_wp2_with fail
   go_ret
   exact⟨jl (by rw[<-i.out,if_pos trivial,if_pos (ah o.out)]),h⟩
  ·have o:=aq y;go_wp2_with fail;refine(E _ h).mono ?_;rintro e H ⟨rfl,z⟩;have r:Hid (aj w H):=h.trans (z.mono h.size);clear z;by_cases B:200<n
   ·have p:=aq B;go_wp2_with fail
    go_ret
    exact⟨jl (by rw[<-i.out,if_pos trivial,if_pos (ai p.out)]),r⟩
   ·have p:=aq B;go_wp2_with fail
    go_ret
    exact⟨jl (by rw[<-i.out,if_pos trivial,if_neg (by have:=o.out;have:=p.out;omega)]),r⟩
def wV(n:Nat)(x:Tm n):Int:=if bI n x then if 12<fA n x\/200<sz n x then 2 else 0 else 5
theorem Cs(n:Nat)(x:Tm n)(B:Nat)(w:World)(d:In B w n x)(b:B<=w.heap.size)(f:(ax n x).length<=2097152):am 23 #[df n x] w λe w'=>e=.returned (ab (wV n x))/\aj w w':=by
 cases n with
 | zero=>exact d.elim
 | succ n=>
 exact Ct w x.1.1 x.1.2.1 x.1.2.2 x.2.1.1 x.2.2.length x.2.1.2 (bI (n+1) x) (fA (n+1) x) (sz (n+1) x)
  (λc a=>Dj (n+1) x B c (d.below (a.mono b)) (az b a.size))
  (λc a=>Gp (n+1) x B c (d.below (a.mono b)) (az b a.size) f)
  (λc a=>yu (n+1) x B c (d.below (a.mono b)) (az b a.size) f)
theorem jp:(n:Nat)->(x:Tm n)->bI n x=(ax n x).all cg
 | 0,_=>by simp[bI,ax,cg]
 | n+1,x=>by
  have e:(ax (n+1) x).all cg=(cg (bw n x) && (x.2.2.flatMap λy=>ax n y).all cg):=rfl;rw[e];simp only[bI];cases hg:cg (bw n x)
  ·rfl
  ·rw[ez,ez];by_cases b:x.1.1=4
   ·rw[b];have key:∀l:List (Tm n),(l.all λy=>bI n y)=(l.flatMap λy=>ax n y).all cg:=by
     intro l
     induction l with
     | nil=>rfl
     | cons y l ih=>simp only[ip,bz,jg,ih,jp n y]
    rw[key];simp
   ·have c:x.2.2=[]:=by
      unfold cg at hg;simp only[aA,gq,cm]at hg;rcases hg.2 with a|a
      ·exact(b a).elim
      ·have:¬(0:Int)<(x.2.2.length:Int):=by simpa [bw]using a
       exact bF (by omega)
    rw[c];simp
def nI:List Nd->List Int->Int->Int
 | x::l,d::ds,m=>nI l ds (nj x d m)
 | _,_,m=>m
theorem AR(g:Int):(l:List Nd)->(b:List Int)->(m:Int)->l.length=b.length->C6 g l b m=if l.all cg then (if 12<nI l b m\/200<g then 2 else 0)else 5
 | [],_,_,_=>rfl
 | x::l,[],_,a=>by simp at a
 | x::l,d::b,m,a=>by
  have ih:=AR g l b (nj x d m) (by simpa using a);simp only[C6,nI];by_cases f:cg x=true
  ·have e:(x::l).all cg=l.all cg:=by simp[f]
   rw[if_pos f,ih];by_cases c:l.all cg=true
   ·rw[if_pos c,if_pos (e.trans c)];rfl
   ·rw[if_neg c,if_neg (λa=>c (e.symm.trans a))]
  ·rw[if_neg f,if_neg (λa=>f (bZ.1 a x (by simp)))]
theorem qY:(l r:List Nd)->(a es:List Int)->(m:Int)->l.length=a.length->nI (l++r) (a++es) m=nI r es (nI l a m)
 | [],_,[],_,_,_=>rfl
 | [],_,_::_,_,_,h=>by simp at h
 | _::_,_,[],_,_,h=>by simp at h
 | x::l,r,d::a,es,m,h=>by
  simp only[fO,nI];exact qY l r a es _ (by simpa using h)
theorem Bc{n:Nat}(c:Int):(p:List (Tm n))->(m e:Int)->p.foldl (λm y=>max m (c+fA n y)) (max m (c+e))=max m (c+p.foldl (λm y=>max m (fA n y)) e)
 | [],_,_=>rfl
 | y::p,m,e=>by
  simp only[fo];have a:max (max m (c+e)) (c+fA n y)=max m (c+max e (fA n y)):=by omega
  rw[a];exact Bc c p m (max e (fA n y))
theorem A1:(n:Nat)->(x:Tm n)->(d m:Int)->(∀a∈ax n x,cg a=true)->d<=m->nI (ax n x) (pN n x d) m=max m (d+fA n x)
 | 0,x,_,_,h,_=>by
  have:=h ((0,0,.empty),(none,0,0)) (by simp[ax]);rcases ku _ this with g|g|g|g|g|⟨g,_⟩<;>simp at g
 | n+1,x,d,m,h,k=>by
  have f:=h (bw n x) (by simp[ax,bw]);have key:∀(p:List (Tm n))(m:Int),(∀y∈p,y∈x.2.2)->d+1<=m->nI (p.flatMap λy=>ax n y) (p.flatMap λy=>pN n y (d+1)) m=p.foldl (λm y=>max m (d+1+fA n y)) m:=by
   intro p
   induction p with
   | nil=>intro m _ _;rfl
   | cons y p ih=>
    intro m l k;simp only[bz,fo];rw[qY _ _ _ _ _ (j0 n y (d+1)).symm,A1 n y (d+1) m (λa q=>h a (mw (l y (by simp)) q)) k];exact ih _ (λu t=>l u (by simp[t])) (by omega)
  have o:nI (ax (n+1) x) (pN (n+1) x d) m=nI (x.2.2.flatMap λy=>ax n y) (x.2.2.flatMap λy=>pN n y (d+1)) (nj (bw n x) d m):=rfl;rw[o];simp only[fA];by_cases b:x.1.1=4
  ·rw[if_pos b];have c:nj (bw n x) d m=max m (d+1+0):=by
    unfold nj bw;by_cases j:m<d+1
    ·rw[if_pos ⟨b,j⟩];omega
    ·rw[if_neg (λi=>j i.2)];omega
   rw[c,key x.2.2 _ (λ_ s=>s) (by omega),Bc];omega
  ·rw[if_neg b];have r:x.2.2=[]:=by
    unfold cg at f;simp only[aA,gq,cm]at f;rcases f.2 with e|e
    ·exact(b e).elim
    ·have:¬(0:Int)<(x.2.2.length:Int):=by simpa [bw]using e
     exact bF (by omega)
   have c:nj (bw n x) d m=m:=Gn _ (λi=>b i.1);rw[r,c];simp only[List.flatMap_nil,nI];omega
theorem gj(n:Nat)(x:Tm n):wV n x=bv n x:=by
 unfold wV bv;rw[AR _ _ _ _ (j0 n x 0).symm,<-jp n x];by_cases a:bI n x=true
 ·rw[if_pos a,if_pos a];have d:∀b∈ax n x,cg b=true:=by
   rw[jp n x]at a;exact λb c=>bZ.1 a b c
  have e:=fV n x;rw[A1 n x 0 0 d (by omega)];have:max (0:Int) (0+fA n x)=fA n x:=by omega
  rw[this]
 ·rw[if_neg a,if_neg a]
theorem dC(n:Nat)(x:Tm n)(B:Nat)(w:World)(c:In B w n x)(a:B<=w.heap.size)(b:(ax n x).length<=2097152):am 23 #[df n x] w λe w'=>e=.returned (ab (bv n x))/\aj w w':=by
 rw[<-gj];exact Cs n x B w c a b
def BQ(n:Nat)(y:Tm n):Bool:=bv n y==0 && (bU ⟨n,y⟩==6 || jZ n y)
def ge(n:Nat)(q:List (Tm n)):Bool:=decide (q.length=4) && q.all (BQ n)
def fC(B:Nat)(w:World)(n:Nat)(q:List (Tm n))(a:Option Addr):Prop:=
 q=[]\/∃b o,a=some ⟨b,o,none⟩/\b<B/\∀(d:Nat)(c:Tm n),q[d]?=some c->dB w b (o+d*4) n c/\In B w n c
theorem fC.below{B:Nat}{w w':World}(d:Below B w w'){n:Nat}{q:List (Tm n)}{a:Option Addr}(k:fC B w n q a):fC B w' n q a:=by
 rcases k with c|⟨b,o,i,e,c⟩
 ·exact ah c
 ·exact ai ⟨b,o,i,e,λg h f=>⟨(c g h f).1.below d e,(c g h f).2.below d⟩⟩
theorem qQ{a:Type}(f:a->Bool)(q:List a)(k:Nat)(y:a)(c:q[k]?=some y):(q.drop k).all f=(f y && (q.drop (k+1)).all f):=by
 obtain⟨d,b⟩:=aO.1 c;rw[eA d,b];rfl
theorem Mb(a:Option Addr)(len pc:Nat)(w:World)(_hl:len<=9223372036854775807)(b:((len:Int) !=4)=true):am 177 #[ae a len pc] w λe w'=>e=.returned (.bool false)/\w'=w:=by
 go_enter func177,ntmps177;go_wp2_with fail
 go_ret
 exact⟨rfl,rfl⟩
theorem FY(n:Nat)(q:List (Tm n))(z po pc:Nat)(B:Nat)(w:World)(L:Hid (q.length=4))(R:z<B)(K:∀(i:Nat)(y:Tm n),q[i]?=some y->dB w z (po+i*4) n y/\In B w n y)(H:∀y∈q,(ax n y).length<=2097152)(C:B<=w.heap.size):am 177 #[ae (some ⟨z,po,none⟩) 4 pc] w λe w'=>e=.returned (.bool (q.all (BQ n)))/\aj w w':=by
 go_enter func177,ntmps177;go_wp2_with fail;go_loopw [10] (λi wr=>∃k:Nat,k<=4/\i=ab k/\aj w wr/\Hid ((q.drop k).all (BQ n)=q.all (BQ n))) (λi _=>4-(intOf i).toNat)
 case atStart=>exact⟨0,by omega,rfl,ap _ _,rfl⟩
 case round=>
  obtain⟨k,X,rfl,c,l⟩:=hrel;by_cases Q:k<4
  ·obtain⟨a,v⟩:∃a,q[k]?=some a:=⟨q[k]'(by rw[L.out];exact Q),aG _⟩;have s:=aq (qQ (BQ n) q k a v);obtain⟨x,m⟩:=K k a v;have I:=H a (aH v);replace x:=x.below (c.mono C) R;replace m:=m.below (c.mono C);clear K v H;cases n with
   | zero=>exact x.elim
   | succ n=>
   obtain⟨T,U,V,W⟩:=x;have t:B<=wr.heap.size:=az C c.size
   have F:Hid (∀b,aj wr b->am 23 #[.agg #[ab a.1.1,ab a.1.2.1,af a.1.2.2,ae a.2.1.1 a.2.2.length a.2.1.2]] b λe w'=>e=.returned (ab (bv (n+1) a))/\aj b w'):=
    λb j=>dC (n+1) a B b (m.below (j.mono t)) (az t j.size) I
   have N:Hid (∀b,aj wr b->am 75 #[.agg #[ab a.1.1,ab a.1.2.1,af a.1.2.2,ae a.2.1.1 a.2.2.length a.2.1.2]] b λe w'=>e=.returned (.bool (aK (n+1) a))/\aj b w'):=
    λb j=>iH (n+1) a B b (m.below (j.mono t)) (az t j.size)
   have r:Hid (BQ (n+1) a=(bv (n+1) a==0 && (a.1.1==6 || aK (n+1) a))):=by unfold Hid BQ;rw[fw];rfl
   clear m I;generalize a.2.2.length=ad at*;generalize aK (n+1) a=cl at*;generalize bv (n+1) a=h at*;generalize BQ (n+1) a=ok at*;have Y:(0:Int)<=(k:Int):=by omega
   have Z:(k:Int)<(4:Int):=by omega
   have aa:z<wr.heap.size:=by omega
   have E:Hid (∀o,aj wr (wr.alloc o)):=λo=>(ap _ _).alloc (ak _) _;go_wp2_with fail;refine(F _ (E _)).mono ?_;rintro e b ⟨rfl,u⟩;obtain⟨⟨t0,t1,t2,t3⟩,_⟩:=ET u;have A:Hid (aj wr b):=(E _).trans (u.mono (by simp));have O:Hid (wr.heap.size<b.heap.size):=by have:=u.size;simp at this;unfold Hid;omega
   clear u T U V W F;by_cases f:h=0
   ·have P:(h !=0)=false:=by simp[f]
    have g:Hid (h=0):=f;clear f;go_wp2_with fail;refine(js _ _ _ _ _ _ _).mono ?_;rintro e M ⟨rfl,D⟩;obtain⟨t4,t5,t6,t7⟩:=nT O D ⟨t0,t1,t2,t3⟩;have p:Hid (aj wr M):=A.trans (D.mono A.size);clear D t0 t1 t2 t3;cases G:a.1.1==6
    ·simp only[Bool.not_false];go_wp2_with fail;refine(N _ p).mono ?_;rintro e S ⟨rfl,J⟩;have d:aj w S:=c.trans ((p.trans (J.mono p.size)).mono c.size);clear J;cases cl with
     | true=>
      go_wp2_with fail;go_roundw
      case rel=>exact⟨k+1,by omega,by go_num,d,by rw[<-l.out,s.out,r.out,g.out];simp[Hid]⟩
      case measure=>simp[intOf];omega
     | false=>
      go_wp2_with fail
      go_ret
      exact⟨eS (by rw[<-l.out,s.out,r.out,g.out,G];simp),d⟩
    ·simp only[Bool.not_true];have d:aj w M:=c.trans (p.mono c.size);go_wp2_with fail;go_roundw
     case rel=>exact⟨k+1,by omega,by go_num,d,by rw[<-l.out,s.out,r.out,g.out,G];simp[Hid]⟩
     case measure=>simp[intOf];omega
   ·have P:(h !=0)=true:=by simpa using f
    have g:Hid ((h==0)=false):=by simpa [Hid]using f
    have d:aj w b:=c.trans (A.mono c.size);clear f;go_wp2_with fail
    go_ret
    exact⟨eS (by rw[<-l.out,s.out,r.out,g.out];simp),d⟩
  ·go_wp2_with fail
   go_ret
   refine⟨eS ?_,c⟩;rw[<-l.out,gt (by rw[L.out];omega)];rfl
theorem AI(n:Nat)(q:List (Tm n))(a:Option Addr)(pc B:Nat)(w:World)(d:fC B w n q a)(i:q.length<=9223372036854775807)(g:∀y∈q,(ax n y).length<=2097152)(f:B<=w.heap.size):am 177 #[ae a q.length pc] w λe w'=>e=.returned (.bool (ge n q))/\aj w w':=by
 unfold ge;by_cases c:q.length=4
 ·rcases d with d|⟨b,o,rfl,h,j⟩
  ·rw[d]at c;simp at c
  ·have k:=FY n q b o pc B w c h j g f;rw[c];simpa using k
 ·refine(Mb a q.length pc w i (by simp;omega)).mono ?_;rintro e w' ⟨rfl,rfl⟩;exact⟨by simp[c],ap _ _⟩
def aS:(N:Nat)->(n:Nat)->Tm n->Tm N
 | 0,_,_=>()
 | _+1,0,_=>((0,0,.empty),(none,0),[])
 | N+1,n+1,x=>(x.1,x.2.1,x.2.2.map λy=>aS N n y)
theorem MR(N n:Nat)(x:Tm (n+1)):gg (N+1) (aS (N+1) (n+1) x)=gg (n+1) x:=by simp[gg,bw,aS]
theorem xE(N n:Nat)(g:n<=N)(x:Tm n)(w:World)(b o:Nat)(k:dB w b o n x):dB w b o N (aS N n x):=by
 cases n with
 | zero=>exact k.elim
 | succ n=>
  obtain⟨N,rfl⟩:∃a,N=a+1:=⟨N-1,by omega⟩;obtain⟨c,d,e,f⟩:=k;exact⟨c,d,e,by simpa [aS]using f⟩
theorem oT:(N n:Nat)->n<=N->(x:Tm n)->(B:Nat)->(w:World)->In B w n x->In B w N (aS N n x)
 | _,0,_,_,_,_,k=>k.elim
 | 0,n+1,h,_,_,_,_=>by omega
 | N+1,n+1,h,x,B,w,k=>by
  obtain⟨j,a⟩:=k;refine⟨by simpa [aS]using j,?_⟩;rcases a with a|⟨b,o,e,g,a⟩
  ·exact ah (by simp[aS,a])
  ·refine ai ⟨b,o,e,g,λi y d=>?_⟩;simp only[aS,dn]at d;obtain⟨c,f,rfl⟩:=ci.1 d;exact⟨xE N n (by omega) c w b _ (a i c f).1,oT N n (by omega) c B w (a i c f).2⟩
theorem nu:(N n:Nat)->n<=N->(x:Tm (n+1))->ax (N+1) (aS (N+1) (n+1) x)=ax (n+1) x
 | N,0,_,x=>by
  have:∀l:List (Tm 0),(l.map λy=>aS N 0 y).flatMap (λy=>ax N y)=l.flatMap λy=>ax 0 y:=by
   intro l
   induction l with
   | nil=>rfl
   | cons a l ih=>
    simp only[aM,bz,ih];congr 1;cases N with
    | zero=>rfl
    | succ N=>simp[aS,ax]
  simp only[ax,aS,eE,this]
 | 0,n+1,h,_=>by omega
 | N+1,n+1,h,x=>by
  have:∀l:List (Tm (n+1)),(l.map λy=>aS (N+1) (n+1) y).flatMap (λy=>ax (N+1) y)=l.flatMap λy=>ax (n+1) y:=by
   intro l
   induction l with
   | nil=>rfl
   | cons a l ih=>
    simp only[aM,bz,ih];rw[nu N n (by omega) a]
  have b:ax (N+2) (aS (N+2) (n+2) x)=(x.1,(x.2.1.1,(x.2.2.map λy=>aS (N+1) (n+1) y).length,x.2.1.2))::(x.2.2.map λy=>aS (N+1) (n+1) y).flatMap λy=>ax (N+1) y:=rfl;rw[b,this];simp[ax]
def mZ(b:List An):Nat:=b.foldr (λa m=>max a.1 m) 0
theorem Ai(b:List An):∀a∈b,a.1<=mZ b:=by
 induction b with
 | nil=>intro a d;cases d
 | cons c b ih=>
  intro a d;simp only[mZ,List.foldr_cons];rcases ch.1 d with rfl|d
  ·omega
  ·have:=ih a d;unfold mZ at this;omega
def CC(b:List An):List (Tm (mZ b)):=b.map λa=>aS (mZ b) a.1 a.2
theorem Ly(b:List An)(i:Nat)(y:Tm (mZ b))(c:(CC b)[i]?=some y):∃a,b[i]?=some a/\a.1<=mZ b/\y=aS (mZ b) a.1 a.2:=by
 simp only[CC,dn]at c;obtain⟨a,d,rfl⟩:=ci.1 c;exact⟨a,d,Ai b a (aH d),rfl⟩
theorem Lz{base g c B:Nat}{b:List An}{w:World}(e:nb base g c b w)(k:∀y∈b,FS B w y)(j:B<=w.heap.size):fC w.heap.size w (mZ b) (CC b) (some ⟨g,0,none⟩):=by
 refine ai ⟨g,0,rfl,e.lt.2,λa y m=>?_⟩;obtain⟨d,f,i,rfl⟩:=Ly b a y m;have h:=k d (aH f);refine⟨?_,(oT _ _ i _ _ _ h).mono j⟩;obtain⟨n,o⟩:=d;have l:=e.cells a _ f;cases n with
 | zero=>exact h.elim
 | succ n=>
  rw[dc];exact xE _ _ i o w g (a*4) l
theorem IU{b:List An}(f:∀y∈b,aD y/\y.1≠0):∀y∈CC b,aD ⟨mZ b,y⟩:=by
 intro y k;obtain⟨m,h⟩:=cM k;obtain⟨e,g,i,rfl⟩:=Ly b m y h;have j:=f e (aH g);obtain⟨n,o⟩:=e;cases n with
 | zero=>exact(j.2 rfl).elim
 | succ n=>
  intro p c;clear h k g f;generalize mZ b=d at*;obtain⟨a,rfl⟩:∃a,d=a+1:=⟨d-1,by simp only at i;omega⟩;have l:=nu a n (by simp only at i;omega) o;simp only at c;rw[l]at c;exact j.1 p c
theorem iT{c d:Type}(f:c->d->Bool):(p:List c)->(q:List d)->(x:c)->(y:d)->aC f p q=true->f x y=true->aC f (p++ [x]) (q++ [y])=true
 | [],[],x,y,_,h=>by simp[aC,h]
 | [],_::_,_,_,h,_=>by simp[aC]at h
 | _::_,[],_,_,h,_=>by simp[aC]at h
 | a::p,b::q,x,y,h,k=>by
  simp only[aC,aA,fO]at h ⊢;exact⟨h.1,iT f p q x y h.2 k⟩
theorem cE{c d:Type}(f:c->d->Bool):(p:List c)->(q:List d)->aC f p q=true->p.length=q.length
 | [],[],_=>rfl
 | [],_::_,h=>by simp[aC]at h
 | _::_,[],h=>by simp[aC]at h
 | a::p,b::q,h=>by
  simp only[aC,aA]at h;simp[cE f p q h.2]
def zA:An:=⟨1,((0,0,.empty),(none,0),[])⟩
theorem G1(n:Nat):(madeCells #[ab 0,ab 0,af .empty,ae none 0 0] (n*4)).toList=fT (List.replicate n zA):=by
 apply List.ext_getElem?;intro b;by_cases e:b<n*4
 ·obtain⟨k,a,f,rfl⟩:∃k a,a<4/\b=k*4+a:=⟨b / 4,b % 4,Nat.mod_lt _ (by decide),by omega⟩;have g:k<n:=by omega
  have c:(fT (List.replicate n zA))[k*4+a]?=(vC (te zA))[a]? :=iP _ k (te zA) (by simp[g]) a f;rw[c];have d:(madeCells #[ab 0,ab 0,af .empty,ae none 0 0] (n*4))[k*4+a]?=some ((#[ab 0,ab 0,af .empty,ae none 0 0]:Array Value)[(k*4+a) % 4]!):=by
   simp[madeCells,e]
  rw[mK,d,show (k*4+a) % 4=a by omega];have:a=0\/a=1\/a=2\/a=3:=by omega
  rcases this with rfl|rfl|rfl|rfl<;>rfl
 ·rw[eD (by simp[size_madeCells];omega),eD (by rw[kS];simp;omega)]
def uq(n:Nat)(p:List (Tm n))(len g k:Nat)(l:List (Tm n))(wr:World):Prop:=
 l.length=k/\nb g g len (l.map (λe=>(⟨n,e⟩:An))++List.replicate (len-k) zA) wr/\(∀a∈l,In wr.heap.size wr n a/\cd (λd=>g<d) n a)/\aC (λc b=>ay n c n b) l (p.take k)=true
theorem uq.step{n:Nat}{p:List (Tm n)}{len g k:Nat}{l:List (Tm n)}{wr w1:World}(j:uq n p len g k l wr)(w:k<len)(x:Tm n)(u:p[k]?=some x)(c:aj wr w1)(y:Tm n)(v:In w1.heap.size w1 n y)(h:cd (λq=>g<q) n y)(s:ay n y n x=true):uq n p len g (k+1) (l++ [y]) (jv w1 g (k*4) (gg n y)):=by
 obtain⟨e,m,b,o⟩:=j;have f:=(m.below c).put k ⟨n,y⟩ (by simp;omega);have i:(l.map (λx=>(⟨n,x⟩:An))++List.replicate (len-k) zA).set k ⟨n,y⟩=(l++ [y]).map (λx=>(⟨n,x⟩:An))++List.replicate (len-(k+1)) zA:=by
  rw[iq _ _ (by simp;omega)];have:len-k=(len-(k+1))+1:=by omega
  rw[this,List.replicate_succ];simp[e]
 rw[i]at f;refine⟨by simp[e],f,?_,?_⟩
 ·intro d a;have t:(jv w1 g (k*4) (gg n y)).heap.size=w1.heap.size:=bq _ _ _ _;rw[t];rcases dp.1 a with a|a
  ·exact⟨In.off (λq r=>aW (by omega) _ _ _ _) (b d a).2 (((b d a).1.below c).mono c.size),(b d a).2⟩
  ·simp only[eF]at a;subst a;exact⟨In.off (λq r=>aW (by omega) _ _ _ _) h v,h⟩
 ·rw[dq,u];exact iT _ _ _ _ _ o s
def gJ(n:Nat)(p:List (Tm n))(w w':World)(a:Option Addr)(c:Nat)(l:List (Tm n)):Prop:=
 aj w w'/\l.length=p.length/\l.length<=c/\c<=maxLen/\aC (λa b=>ay n a n b) l p=true/\
 (l=[]\/∃b o,a=some ⟨b,o,none⟩/\(w.heap.size<=b/\o=0/\(∀g,w'.frozen? ⟨b,g,none⟩=false)/\∀d∈l,cd (λe=>e≠b) n d)/\b<w'.heap.size/\∀(f:Nat)(d:Tm n),l[f]?=some d->dB w' b (o+f*4) n d/\In w'.heap.size w' n d/\cd (λe=>w.heap.size<=e) n d)
theorem uq.done{n:Nat}{p:List (Tm n)}{len k:Nat}{l:List (Tm n)}{w wr:World}(f:uq n p len w.heap.size k l wr)(u:p.length=len)(j:k=len)(g:aj w wr)(m:len<=maxLen):gJ n p w wr (some ⟨w.heap.size,0,none⟩) len l:=by
 obtain⟨t,c,d,e⟩:=f;subst j;rw[bu (by omega)]at e;rw[gU,mT,dY]at c;refine⟨g,by omega,by omega,m,e,ai ⟨w.heap.size,0,rfl,⟨ak _,rfl,λr=>c.free r,λb a=>(d b a).2.mono λs o=>by omega⟩,c.lt.2,λq b a=>⟨?_,(d b (aH a)).1,(d b (aH a)).2.mono λs o=>by omega⟩⟩⟩;have h:=c.cells q ⟨n,b⟩ (by simp[a]);have i:=(d b (aH a)).1;cases n with
 | zero=>exact i.elim
 | succ n=>
  rw[dc];exact h
def PW(n:Nat):Prop:=∀(x:Tm n)(B:Nat)(w:World),In B w n x->B<=w.heap.size->aD ⟨n,x⟩->
 am 24 #[df n x] w λe w'=>∃y:Tm n,e=.returned (df n y)/\Hid (aj w w'/\In w'.heap.size w' n y/\cd (λq=>w.heap.size<=q) n y/\ay n y n x=true)
theorem uD{s t:ByteArray}(b:(s.toList==t.toList)=true):s=t:=by
 have a:s.toList=t.toList:=by simpa using b
 rw[bE,bE]at a;cases s;cases t;simp only at a;rw[iZ.1 a]
theorem bG{n m:Nat}{x:Tm (n+1)}{y:Tm (m+1)}(c:ay (n+1) x (m+1) y=true):x.1=y.1/\aC (λa b=>ay n a m b) x.2.2 y.2.2=true:=by
 simp only[ay,aA,cm]at c;obtain⟨⟨⟨d,e⟩,f⟩,g⟩:=c;refine⟨?_,g⟩;have h:=uD (s:=x.1.2.2) (t:=y.1.2.2) (by simpa using f);exact iv d (iv e h)
theorem cV{n m:Nat}{x:Tm (n+1)}{y:Tm (m+1)}(c:x.1=y.1)(k:aC (λa b=>ay n a m b) x.2.2 y.2.2=true):ay (n+1) x (m+1) y=true:=by
 simp only[ay,c,k];simp
theorem qw{c d:Type}(f:c->d->Bool)(g:d->c->Bool):(p:List c)->(q:List d)->(∀a∈p,∀b,f a b=true->g b a=true)->aC f p q=true->aC g q p=true
 | [],[],_,_=>rfl
 | [],_::_,_,h=>by simp[aC]at h
 | _::_,[],_,h=>by simp[aC]at h
 | a::p,b::q,hf,h=>by
  simp only[aC,aA]at h ⊢;exact⟨hf a (by simp) b h.1,qw f g p q (λe i=>hf e (bX _ i)) h.2⟩
theorem dJ:(n:Nat)->(x:Tm n)->(m:Nat)->(y:Tm m)->ay n x m y=true->ay m y n x=true
 | 0,_,_,_,h=>by simp[ay]at h
 | _+1,_,0,_,h=>by simp[ay]at h
 | n+1,x,m+1,y,h=>by
  obtain⟨c,d⟩:=bG h;exact cV c.symm (qw _ _ _ _ (λa _ b e=>dJ n a m b e) d)
theorem oz{d e i:Type}(f:d->e->Bool)(g:e->i->Bool)(k:d->i->Bool):(p:List d)->(q:List e)->(r:List i)->(∀a∈p,∀b c,f a b=true->g b c=true->k a c=true)->aC f p q=true->aC g q r=true->aC k p r=true
 | [],[],[],_,_,_=>rfl
 | [],[],_::_,_,_,h=>by simp[aC]at h
 | [],_::_,_,_,h,_=>by simp[aC]at h
 | _::_,[],_,_,h,_=>by simp[aC]at h
 | _::_,_::_,[],_,_,h=>by simp[aC]at h
 | a::p,b::q,c::r,hf,h1,h2=>by
  simp only[aC,aA]at h1 h2 ⊢;exact⟨hf a (by simp) b c h1.1 h2.1,oz f g k p q r (λj l=>hf j (bX _ l)) h1.2 h2.2⟩
theorem bH:(n:Nat)->(x:Tm n)->(m:Nat)->(y:Tm m)->(l:Nat)->(d:Tm l)->ay n x m y=true->ay m y l d=true->ay n x l d=true
 | 0,_,_,_,_,_,h,_=>by simp[ay]at h
 | _+1,_,0,_,_,_,h,_=>by simp[ay]at h
 | _+1,_,_+1,_,0,_,_,h=>by simp[ay]at h
 | n+1,x,m+1,y,l+1,d,h,k=>by
  obtain⟨e,f⟩:=bG h;obtain⟨j,o⟩:=bG k;exact cV (e.trans j) (oz _ _ _ _ _ _ (λa _ b c g i=>bH n a m b l c g i) f o)
theorem iS{b:Type}(f:b->b->Bool):(p:List b)->(∀a∈p,f a a=true)->aC f p p=true
 | [],_=>rfl
 | a::p,h=>by
  simp only[aC,aA];exact⟨h a (by simp),iS f p λc d=>h c (bX _ d)⟩
theorem fy:(n:Nat)->(x:Tm n)->aD ⟨n,x⟩->ay n x n x=true
 | 0,_,h=>(dh h).elim
 | n+1,x,h=>cV rfl (iS _ _ λy a=>fy n y (aU n x y h a))
theorem aL{n:Nat}{x:Tm n}:aD ⟨n,x⟩ ↔ bI n x=true:=by
 rw[jp,bZ];exact Iff.rfl
theorem MD{x:Int×Int×ByteArray}{a b:Option Addr}{l c d:Nat}:cg (x,(a,l,c))=cg (x,(b,l,d)):=rfl
theorem sK{c d:Type}(f:c->d->Bool)(g:c->Bool)(k:d->Bool):(p:List c)->(q:List d)->(∀a∈p,∀b,f a b=true->g a=k b)->aC f p q=true->p.all g=q.all k
 | [],[],_,_=>rfl
 | [],_::_,_,h=>by simp[aC]at h
 | _::_,[],_,h=>by simp[aC]at h
 | a::p,b::q,hf,h=>by
  simp only[aC,aA]at h;simp only[ip,hf a (by simp) b h.1,sK f g k p q (λe i=>hf e (bX _ i)) h.2]
theorem kA{c d e:Type}(f:c->d->Bool)(g:c->e)(k:d->e):(p:List c)->(q:List d)->(∀a∈p,∀b,f a b=true->g a=k b)->aC f p q=true->p.map g=q.map k
 | [],[],_,_=>rfl
 | [],_::_,_,h=>by simp[aC]at h
 | _::_,[],_,h=>by simp[aC]at h
 | a::p,b::q,hf,h=>by
  simp only[aC,aA]at h;simp only[aM,hf a (by simp) b h.1,kA f g k p q (λi j=>hf i (bX _ j)) h.2]
theorem uX{b:Type}(g:b->Int):(p:List b)->(i:Int)->p.foldl (λm y=>max m (g y)) i=(p.map g).foldl max i
 | [],_=>rfl
 | a::p,i=>by simp only[fo,aM];exact uX g p _
theorem cB:(n:Nat)->(x:Tm n)->(m:Nat)->(y:Tm m)->ay n x m y=true->aK n x=aK m y
 | 0,_,_,_,h=>by simp[ay]at h
 | _+1,_,0,_,h=>by simp[ay]at h
 | n+1,x,m+1,y,h=>by
  obtain⟨c,d⟩:=bG h;simp only[aK,c];rw[sK _ _ _ _ _ (λa _ b e=>cB n a m b e) d]
theorem jy:(n:Nat)->(x:Tm n)->(m:Nat)->(y:Tm m)->ay n x m y=true->bI n x=bI m y
 | 0,_,_,_,h=>by simp[ay]at h
 | _+1,_,0,_,h=>by simp[ay]at h
 | n+1,x,m+1,y,h=>by
  obtain⟨a,c⟩:=bG h;have e:cg (bw n x)=cg (bw m y):=by
   have g:=cE _ _ _ c;unfold bw;rw[a,g];exact MD
  simp only[bI,e,a];rw[sK _ _ _ _ _ (λd _ b f=>jy n d m b f) c]
theorem lI:(n:Nat)->(x:Tm n)->(m:Nat)->(y:Tm m)->ay n x m y=true->sz n x=sz m y
 | 0,_,_,_,h=>by simp[ay]at h
 | _+1,_,0,_,h=>by simp[ay]at h
 | n+1,x,m+1,y,h=>by
  obtain⟨c,d⟩:=bG h;simp only[sz,c];rw[kA _ (λy=>1+sz n y) (λy=>1+sz m y) _ _ (λa _ b e=>by rw[lI n a m b e]) d]
theorem Cf:(n:Nat)->(x:Tm n)->(m:Nat)->(y:Tm m)->ay n x m y=true->fA n x=fA m y
 | 0,_,_,_,h=>by simp[ay]at h
 | _+1,_,0,_,h=>by simp[ay]at h
 | n+1,x,m+1,y,h=>by
  obtain⟨c,d⟩:=bG h;simp only[fA,c];rw[uX (λy=>fA n y),uX (λy=>fA m y),kA _ (λy=>fA n y) (λy=>fA m y) _ _ (λa _ b e=>Cf n a m b e) d]
theorem bJ{n m:Nat}{x:Tm n}{y:Tm m}(a:ay n x m y=true):bv n x=bv m y:=by
 rw[<-gj,<-gj];unfold wV;rw[jy n x m y a,lI n x m y a,Cf n x m y a]
theorem kB{n m:Nat}{x:Tm n}{y:Tm m}(a:ay n x m y=true):bU ⟨n,x⟩=bU ⟨m,y⟩:=by
 cases n with
 | zero=>simp[ay]at a
 | succ n=>
  cases m with
  | zero=>simp[ay]at a
  | succ m=>
   have:=(bG a).1;simp only[bU,this]
theorem jx{c d:Type}(f:c->d->Bool):(p:List c)->(q:List d)->aC f p q=true->∀(i:Nat)(a:c)(b:d),p[i]?=some a->q[i]?=some b->f a b=true
 | [],_,_,i,a,b,ha,_=>by simp at ha
 | _::_,[],h,_,_,_,_,_=>by simp[aC]at h
 | a::p,b::q,h,0,a',b',ha,hb=>by
  simp only[aC,aA]at h;simp at ha hb;subst ha hb;exact h.1
 | a::p,b::q,h,i+1,a',b',ha,hb=>by
  simp only[aC,aA]at h;exact jx f p q h.2 i a' b' (by simpa using ha) (by simpa using hb)
theorem iR{b c:Type}(f:c->b->Bool)(g:b->c):(p:List b)->(∀a∈p,f (g a) a=true)->aC f (p.map g) p=true
 | [],_=>rfl
 | a::p,h=>by
  simp only[aM,aC,aA];exact⟨h a (by simp),iR f g p λd e=>h d (bX _ e)⟩
theorem fx:(N n:Nat)->n<=N->(x:Tm n)->aD ⟨n,x⟩->ay N (aS N n x) n x=true
 | _,0,_,_,h=>(dh h).elim
 | 0,n+1,h,_,_=>by omega
 | N+1,n+1,h,x,hr=>cV rfl (iR _ _ _ λy a=>fx N n (by omega) y (aU n x y hr a))
end Go.Proofs.YtmmahddlcldmiaaGreatDoor
