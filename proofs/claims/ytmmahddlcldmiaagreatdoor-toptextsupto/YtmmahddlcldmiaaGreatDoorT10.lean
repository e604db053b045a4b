/- Proved here: plain facts and contracts. No condition but what each names. -/
import Derived.Test.YtmmahddlcldmiaaGreatDoorT09
import Derived.OrdersHeld
namespace Go.Proofs.YtmmahddlcldmiaaGreatDoor
open Go.RowKit Go.Proofs.Tryz
set_option maxRecDepth 100000
set_option maxHeartbeats 4000000
theorem ML:(Tryz.prog.info? 3).map (λi=>(i.zero,i.size,i.bytes))=some (some (ab 0),1,8):=by kernel_rfl
def Pm(base i:Nat)(f:Option Addr)(L g:Nat)(xs:List Value)(t:Bool)(h:Int->Prop)(w:World)(e:Ending)(w':World):Prop:=
 e=.returned (.bool t)/\(t=false->aj w w')/\
  (t=true->∃d a c b,h d/\b.ownsRow base 3 1 (ae (some ⟨a,0,none⟩) (L+1) c) (L+1) (xs++ [ab d])/\br (λj=>(Value.slice f L g).ownBlock=some j) w b/\((Value.slice f L g).ownBlock=some a\/w.heap.size<=a)/\w'=b.setCell ⟨i,5,none⟩ (ae (some ⟨a,0,none⟩) (L+1) c))
theorem GW(k u v:Int)(x:ByteArray)(xa:Option Addr)(y xc:Nat)(y0 y1:Int)(y2:ByteArray)(ya:Option Addr)(yl yc:Nat)(nm:ByteArray)(O:Int)(base a:Nat)(b:Option Addr)(L c:Nat)(xs:List Value)(w:World)(t:Bool)(z:Int->Prop)(ag:L<=10000)(G:a<w.heap.size)(al:base<=w.heap.size)(A:Hid (w.cell? ⟨a,5,none⟩=some (ae b L c)/\w.frozen? ⟨a,5,none⟩=false))(V:Hid (w.ownsRow base 3 1 (ae b L c) L xs))(B:Hid ((Value.slice b L c).ownBlock≠some a))(C:Hid (∀W,aj w W->am 192 #[aB a,.agg #[ab u,ab v,af x,ae xa y xc]] W λe w'=>∃f,e=.returned (.tuple #[ab f,.bool t])/\Hid (aj W w'/\z f))):am 182 #[aB a,.agg #[ab k,ab u,ab v,af x,ae xa y xc,ab y0,ab y1,af y2,ae ya yl yc,af nm,ab O]] w (Pm base a b L c xs t z w):=by
 obtain⟨j,H,J,K,M⟩:=bP ML;have n:Hid (Tryz.prog.info? 3=some j/\j.zero=some (ab 0)/\j.size=1/\j.bytes=8):=⟨H,J,K,M⟩;clear H J K M;have D:Hid (∃r,r=w.alloc (.cells #[ab k,ab u,ab v,af x,ae xa y xc,ab y0,ab y1,af y2,ae ya yl yc,af nm,ab O] 208)/\aj w r):=⟨_,rfl,(ap _ _).alloc (ak _) _⟩;go_enter func182,ntmps182;go_wp2_with fail;obtain⟨r,N,F⟩:=D.out;rw[<-N];have m:=aq F;clear N F D;refine(C _ m).mono ?_;rintro e l ⟨f,rfl,q⟩;have d:=aq (m.trans (q.1.mono m.size));have Q:=aq q.2;clear q C m;cases t
 ·go_wp2_with fail
  go_ret
  exact⟨rfl,λ_=>d,λh=>(by cases h)⟩
 ·have X:l.cell? ⟨a,5,none⟩=some (ae b L c):=(d.cell (p:=⟨a,5,none⟩) G).trans A.1;have T:Hid (l.ownsRow base 3 1 (ae b L c) L xs):=bi V (aJ d λ_=>False) λ_ _ h=>h;have g:=aq d.size;have R:Hid (l.frozen? ⟨a,5,none⟩=false):=by
   have i:=A.2;unfold World.frozen? at i ⊢;rw[d.out.block a G];exact i
  go_wp2_with (first
   | (at_builtin;refine wpList_append_lies _ rfl _ _ 57 rfl base 3 j _ 1 8 underlying57 n.1 n.2.1 n.2.2.1 n.2.2.2 rfl (by decide) (ae b L c) L xs rfl (T.alloc _) ⟨l.heap.size,0,none⟩ 1 1 [ab f] rfl rfl (World.news_of_block (cs:= #[ab f]) (t:=3) (fr:=(0,0)) (aE l _)) (by simp[Value.oneCell']) (by decide) (by unfold maxLen;omega) (by omega) (by have:=g.out;simp;omega) _ rfl ?_;intro Z Y s I o E aa;have U:=aq I;have S:=aq o;have P:=aq E;have ad:s.cell? ⟨a,5,none⟩=some (ae b L c):=(o.cell_far ⟨a,5,none⟩ (by show a<_;have:=g.out;simp;omega) (λe=>B e.symm)).trans (((ap _ _).alloc (ak _) _ |>.cell (p:=⟨a,5,none⟩) (by show a<_;have:=g.out;omega)).trans X);have f5:s.frozen? ⟨a,5,none⟩=false:=(o.frozen_far ⟨a,5,none⟩ (by show a<_;have:=g.out;simp;omega) (λe=>B e.symm)).trans (by have i:=R.out;unfold World.frozen? at i ⊢;rw[((ap _ _).alloc (ak _) (.cells #[ab f] 3)).block a (by have:=g.out;omega)];exact i);clear I o E aa))
  go_ret
  refine⟨rfl,λh=>(by cases h),λ_=>⟨f,Z,Y,s,Q.out,U.out,?_,?_,rfl⟩⟩
  ·exact br.trans (aJ (d.alloc d.size _) _) (eh S) λ_ _ e=>e
  ·rcases P with e|e
   ·exact ah e
   ·have:=g.out;simp at e;exact ai (by omega)
section
variable {P:Program} {ops:Array Oper} {Q:Exit->Act->World->Prop} {md:Region.Mode} {S:World->Prop} {X:Nat}
def jO(P:Program)(md:Region.Mode)(ops:Array Oper)(Q:Exit->Act->World->Prop)(S:World->Prop)(X:Nat):Nat->Array Bool->Act->World->Prop
 | 0,listed,a,w=>Region.ready md ops listed=[]/\Q .normal a w
 | fuel+1,listed,a,w=>
  (Region.ready md ops listed=[]->Q .normal a w)/\
  ∀i∈Region.ready md ops listed,wpOp P ops Q i (λb w'=>(i≠X->S w')/\jO P md ops Q S X fuel (listed.setIfInBounds i true) b w') a w
theorem wu:∀(fuel:Nat)(b:Array Bool)(a:Act)(w:World),jO P md ops Q S X fuel b a w->wpAny P md ops Q fuel b a w
 | 0,_,_,_,h=>h
 | fuel+1,_,_,_,h=>⟨h.1,λi e=>wpOp_mono (λc w' d=>wu fuel _ c w' d.2) (h.2 i e)⟩
theorem As{i:Nat}{m:Oper}{v:Value}(z:ops[i]?=some m)(G:∀(j:Nat)(o:Oper) cs b,ops[j]?=some o->o.op≠.select cs b)(L:∀c a w,Q (.panic c) (a.put m.dst v) w->Q (.panic c) a w)(M:∀d,ops[X]?=some d->∃e∈d.after,Region.binds md e=true/\e.on=i):∀(p:Nat)(f:Array Bool)(a:Act)(w:World),(∀j d,ops[j]?=some d->j≠i->f.getD j true=false->(∀e∈d.after,Region.binds md e=true->e.on≠i)->m.apart ops d=true)-> i∈Region.ready md ops f->YieldsIf P ops S m v a->S w-> jO P md ops Q S X p (f.setIfInBounds i true) (a.put m.dst v) w->jO P md ops Q S X (p+1) f a w:=by
 intro p
 induction p with
 | zero=>
  intro f a w _ l u q n;refine⟨λx=>(by rw[x]at l;cases l),λj s=>?_⟩;by_cases g:j=i
  ·subst g;exact u.wpOp z q ⟨λ_=>q,n⟩
  ·have:=ready_mono s g;rw[n.1]at this;cases this
 | succ p ih=>
  intro f a w B l u q n;refine⟨λx=>(by rw[x]at l;cases l),λj s=>?_⟩;by_cases g:j=i
  ·subst g;exact u.wpOp z q ⟨λ_=>q,n⟩
  ·have h:=n.2 j (ready_mono s g);obtain⟨D,d,t,N⟩:=mem_ready.1 s;have F:∀e∈d.after,Region.binds md e=true->e.on≠i:=λe T O V=>by
    have h:=N e T O;have A:=(mem_ready.1 l).1;rw[V]at h;rcases Nat.lt_or_ge i f.size with y|y
    ·simp[y]at A h;rw[A]at h;cases h
    ·simp[Array.getElem?_eq_none y]at h
   have E:j≠X:=λe=>by
    obtain⟨J,U,R,ab⟩:=M d (by rw[<-e];exact t);exact F J U R ab
   have K:=wpOp_putIf t (B j d t g D F) (λcs b=>G i m cs b z) (λcs b=>G j d cs b t) L u h
   have W:∀k ok,ops[k]?=some ok->k≠i->(f.setIfInBounds j true).getD k true=false->
     (∀e∈ok.after,Region.binds md e=true->e.on≠i)->m.apart ops ok=true:=λk ok Y Z H aa=>by
    refine B k ok Y Z ?_ aa;by_cases C:j=k
    ·subst C;exact D
    ·rw[getD_set_ne true C]at H;exact H
   refine wpOp_mono (λI ad r=>⟨λ_=>r.2.1 E,ih (f.setIfInBounds j true) I ad W (ready_mono l (Ne.symm g)) r.1 (r.2.1 E) ?_⟩) K;rw[Array.setIfInBounds_comm _ _ g];exact r.2.2
def Aq(md:Region.Mode)(ops:Array Oper)(X i:Nat):Bool:=((ops[X]?).map λo=>o.after.any λe=>Region.binds md e && e.on==i).getD false
theorem EG{i:Nat}(a:Aq md ops X i=true):∀b,ops[X]?=some b->∃e∈b.after,Region.binds md e=true/\e.on=i:=λb c=>by
 unfold Aq at a;rw[c]at a;simp only[mX,Option.getD_some,Array.any_eq_true]at a;obtain⟨k,d,a⟩:=a;simp only[aA,cm]at a;exact⟨_,Array.getElem_mem d,a.1,a.2⟩
theorem aT{i:Nat}{d:Oper}{v:Value}{e:Nat}{b:Array Bool}{a:Act}{w:World}(f:ops[i]?=some d)(n:Region.noSelect ops=true)(k:Region.free md ops b i=true)(m:(Region.ready md ops b).contains i=true)(o:Aq md ops X i=true)(h:∀c a w,Q (.panic c) (a.put d.dst v) w->Q (.panic c) a w)(l:d.guard=none)(p:∀w,S w->(execOp a.eval d).run P w=.ok (.value v) w)(j:S w)(g:jO P md ops Q S X e (b.setIfInBounds i true) (a.put d.dst v) w):jO P md ops Q S X (e+1) b a w:=
 As f (Region.noSelect_spec n) h (EG o) e b a w (Region.free_spec f k) (by simpa using m) (ah ⟨by simp[Region.wanted,l],p⟩) j g
theorem cT{i:Nat}{o:Oper}{d:Nat}{c:Array Bool}{a:Act}{w:World}(h:Region.ready md ops c=[i])(n:ops[i]?=some o)(l:o.guard=none)(j:∀K:Act->World->Prop,Hid (∀b w',(i≠X->S w')->(S w'->jO P md ops Q S X d (c.setIfInBounds i true) b w')->K b w')->o.wp P a w K Q)(m:i≠X):jO P md ops Q S X (d+1) c a w:=by
 refine⟨λe=>(by rw[h]at e;cases e),λq g=>?_⟩;rw[h]at g;obtain rfl:q=i:=by simpa using g
 unfold wpOp;simp only[n];have p:Region.wanted o (yielded ops a.tmps)=true:=by simp[Region.wanted,l]
 simp only[p,cF];exact ah (j _ λb w' f k=>⟨f,k (f m)⟩)
theorem jA{o:Oper}{c:Nat}{d:Array Bool}{a:Act}{w:World}(i:Region.ready md ops d=[X])(m:ops[X]?=some o)(l:o.guard=none)(g:Region.ready md ops (d.setIfInBounds X true)=[])(j:∀K:Act->World->Prop,Hid (∀b w',Q .normal b w'->K b w')->o.wp P a w K Q):jO P md ops Q S X (c+1) d a w:=by
 refine⟨λe=>(by rw[i]at e;cases e),λp h=>?_⟩;rw[i]at h;obtain rfl:p=X:=by simpa using h
 unfold wpOp;simp only[m];have n:Region.wanted o (yielded ops a.tmps)=true:=by simp[Region.wanted,l]
 simp only[n,cF];refine ah (j _ λb w' f=>⟨λk=>absurd rfl k,?_⟩);cases c with
 | zero=>exact⟨g,f⟩
 | succ c=>exact⟨λ_=>f,by rw[g];simp⟩
theorem jB(S:World->Prop)(X:Nat){id:Nat}{a:Act}{w:World}(c:P.follows .mixedOrders=true)(b:jO P .any ops Q S X ops.size (Array.replicate ops.size false) a w.drew):(Code.region id ops true).wp P Q a w:=
 wp_region_any c (wu _ _ _ _ b)
end
theorem Kc:(Tryz.prog.info? 196).map (λi=>(i.zero,i.size,i.bytes))=some (some (.agg #[ab 0,ab 0,ab 0,af ⟨#[]⟩,ae none 0 0]),5,64):=by kernel_rfl
def NR{N:Nat}(b:Int)(a:Tm (N+1)):List Value:=[ab b,ab a.1.1,ab a.1.2.1,af a.1.2.2,ae a.2.1.1 a.2.2.length a.2.1.2]
def Pp(N base k:Nat)(h:Option Addr)(L i:Nat)(xs:List Value)(t:Bool)(j:Int->Prop)(o:Option (Tm (N+1)))(w:World)(e:Ending)(w':World):Prop:=
 e=.returned (.bool (t && o.isSome))/\((t && o.isSome)=false->aj w w')/\
  ((t && o.isSome)=true->∃(g:Int)(f:Tm (N+1))(a c:Nat)(b:World),j g/\ay (N+1) f (N+1) (o.getD (wC N))=true/\In b.heap.size b (N+1) f/\cd (λd=>w.heap.size<=d/\d≠a) (N+1) f/\b.ownsRow base 196 5 (ae (some ⟨a,0,none⟩) (L+1) c) (L+1) (xs++NR g f)/\br (λd=>(Value.slice h L i).ownBlock=some d) w b/\((Value.slice h L i).ownBlock=some a\/w.heap.size<=a)/\w'=b.setCell ⟨k,3,none⟩ (ae (some ⟨a,0,none⟩) (L+1) c))
theorem Ig(N:Nat)(k ad al:Int)(an:ByteArray)(xa:Option Addr)(ao xc:Nat)(y0 y1:Int)(y2:ByteArray)(ya:Option Addr)(yl yc:Nat)(nm:ByteArray)(a2:Int)(base f:Nat)(h:Option Addr)(L j:Nat)(xs:List Value)(w:World)(t:Bool)(ar:Int->Prop)(o:Option (Tm (N+1)))(bB:L<=10000)(aO:f<w.heap.size)(bD:base<=w.heap.size)(au:Hid (w.cell? ⟨f,3,none⟩=some (ae h L j)/\w.frozen? ⟨f,3,none⟩=false))(ay:Hid (w.ownsRow base 196 5 (ae h L j) L xs))(a7:Hid ((Value.slice h L j).ownBlock≠some f))(ax:Hid (∀W,aj w W->am 192 #[aB f,.agg #[ab ad,ab al,af an,ae xa ao xc]] W λe w'=>∃y,e=.returned (.tuple #[ab y,.bool t])/\Hid (aj W w'/\ar y)))(aA:Hid (∀W,aj w W->am 121 #[aB f,.agg #[ab y0,ab y1,af y2,ae ya yl yc]] W (xf N o W))):am 180 #[aB f,.agg #[ab k,ab ad,ab al,af an,ae xa ao xc,ab y0,ab y1,af y2,ae ya yl yc,af nm,ab a2]] w (Pp N base f h L j xs t ar o w):=by
 obtain⟨I,aQ,aX,aY,aZ⟩:=bP Kc;have O:Hid (Tryz.prog.info? 196=some I/\I.zero=some (.agg #[ab 0,ab 0,ab 0,af ⟨#[]⟩,ae none 0 0])/\I.size=5/\I.bytes=64):=⟨aQ,aX,aY,aZ⟩;clear aQ aX aY aZ;have aC:Hid (∃R A,(R=w.alloc (.cells #[ab k,ab ad,ab al,af an,ae xa ao xc,ab y0,ab y1,af y2,ae ya yl yc,af nm,ab a2] 208)/\A=w.heap.size)/\aj w R/\∀W,aj R W->W.cell? ⟨A,5,none⟩=some (ab y0)/\W.cell? ⟨A,6,none⟩=some (ab y1)/\W.cell? ⟨A,7,none⟩=some (af y2)/\W.cell? ⟨A,8,none⟩=some (ae ya yl yc)):=by
  refine⟨_,_,⟨rfl,rfl⟩,(ap _ _).alloc (ak _) _,λW be=>?_⟩;have c:=(be.block w.heap.size (by simp)).trans (aE w _);exact⟨ag c 5,ag c 6,ag c 7,ag c 8⟩
 go_enter func180,ntmps180;go_wp2_with fail;obtain⟨R,A,⟨a0,aV⟩,aM,aN⟩:=aC.out;rw[<-a0,<-aV];have S:=aq aM;have a4:=aq aN;clear a0 aV aM aN aC;refine(ax _ S).mono ?_;rintro e bE ⟨y,rfl,J⟩;have C:=aq (S.trans (J.1.mono S.size));have a5:=aq J.2;obtain⟨bw,bx,bz,bA⟩:=a4 _ J.1;clear J ax;cases t
 ·go_wp2_with fail
  go_ret
  exact⟨rfl,λ_=>C,λc=>(by cases c)⟩
 ·go_wp2_with fail;refine(aA _ C).mono ?_;rintro e u ⟨a,rfl,B⟩;have D:=aq (C.trans (B.1.mono C.size));cases o with
  | none=>
   simp only[mV];go_wp2_with fail
   go_ret
   exact⟨rfl,λ_=>D.alloc D.size _,λc=>(by cases c)⟩
  | some bF=>
   simp only[mW];have aH:=aq B.2.1;have bb:=aq B.2.2.1;have bc:=aq B.2.2.2;have ba:=aq C.size;have aD:Hid (∃d p,(d=u.alloc (.cells #[ab a.1.1,ab a.1.2.1,af a.1.2.2,ae a.2.1.1 a.2.2.length a.2.1.2] 28)/\p=u.heap.size)/\aj u d/\d.heap[p]?=some (.cells #[ab a.1.1,ab a.1.2.1,af a.1.2.2,ae a.2.1.1 a.2.2.length a.2.1.2] 28)/\d.heap.size=u.heap.size+1):=⟨_,_,⟨rfl,rfl⟩,(ap _ _).alloc (ak _) _,aE _ _,by simp⟩;clear B aA;go_wp2_with fail;obtain⟨d,p,⟨a1,aa⟩,r⟩:=aD.out;rw[<-a1,<-aa];have a9:Hid (p=u.heap.size):=aa;replace r:=aq r;clear a1 aa aD;have M:=aq (D.trans (r.1.mono D.size));obtain⟨l,aR⟩:∃l:Obj,l=.cells #[ab y,ab a.1.1,ab a.1.2.1,af a.1.2.2,ae a.2.1.1 a.2.2.length a.2.1.2] 196:=⟨_,rfl⟩;have U:Hid (∀W:World,aj d W->W.cell? ⟨f,3,none⟩=some (ae h L j)/\W.cell? ⟨p,0,none⟩=some (ab a.1.1)/\W.cell? ⟨p,1,none⟩=some (ab a.1.2.1)/\W.cell? ⟨p,2,none⟩=some (af a.1.2.2)/\W.cell? ⟨p,3,none⟩=some (ae a.2.1.1 a.2.2.length a.2.1.2)):=λW c=>by
    have Q:=(c.block p (aF.1 r.2.1).1).trans r.2.1;have Z:=M.trans (c.mono M.size);exact⟨(Z.cell (p:=⟨f,3,none⟩) aO).trans au.1,ag Q 0,ag Q 1,ag Q 2,ag Q 3⟩
   have E:Hid (aj d (d.alloc l).drew):=((ap _ _).alloc (ak _) l).drew;have s:=U d.drew (ap _ _).drew;have X:=aq (U _ E);have K:=aq (M.trans (E.mono M.size));have aw:Hid ((d.alloc l).drew.ownsRow base 196 5 (ae h L j) L xs):=bi ay (aJ K λ_=>False) λ_ _ c=>c;have av:Hid ((d.alloc l).drew.heap[d.heap.size]?=some l):=aE d l;have F:Hid ((d.alloc l).drew.heap.size=d.heap.size+1):=(show _=_ by simp[World.drew]);have P:Hid (d.heap.size=u.heap.size+1/\w.heap.size<=u.heap.size):=⟨r.2.2,D.size⟩;have aI:Hid (In (d.alloc l).drew.heap.size (d.alloc l).drew (N+1) a):=(aH.below (r.1.trans (E.mono r.1.size))).mono (by have:=r.1.size;have:=E.size;omega);rw[aR]at E X K aw av F aI;clear aR l;obtain⟨bo,bs,bt,bu,bv⟩:=U d (ap _ _);refine wp_region_noPanic ?_;refine jB (λW=>W.cell? ⟨f,3,none⟩=some (ae h L j)/\W.cell? ⟨p,0,none⟩=some (ab a.1.1)/\W.cell? ⟨p,1,none⟩=some (ab a.1.2.1)/\W.cell? ⟨p,2,none⟩=some (af a.1.2.2)/\W.cell? ⟨p,3,none⟩=some (ae a.2.1.1 a.2.2.length a.2.1.2)) 12 (by kernel_rfl) ?_
   try simp only[fq]
   refine aT (i:=0) (v:= ?_) rfl (by kernel_rfl) (by kernel_rfl) (by kernel_rfl) (by kernel_rfl) (λ_ _ _ c=>c) rfl ?_ s ?_;rotate_left
   ·intro w' g
    try dsimp only at g
    go_simp
    try with_reducible rfl
   try simp only[Act.put,bY]
   refine aT (i:=1) (v:= ?_) rfl (by kernel_rfl) (by kernel_rfl) (by kernel_rfl) (by kernel_rfl) (λ_ _ _ c=>c) rfl ?_ s ?_;rotate_left
   ·intro w' g
    try dsimp only at g
    go_simp
    try with_reducible rfl
   try simp only[Act.put]
   refine aT (i:=2) (v:= ?_) rfl (by kernel_rfl) (by kernel_rfl) (by kernel_rfl) (by kernel_rfl) (λ_ _ _ c=>c) rfl ?_ s ?_;rotate_left
   ·intro w' g
    try dsimp only at g
    go_simp
    try with_reducible rfl
   try simp only[Act.put]
   refine aT (i:=3) (v:= ?_) rfl (by kernel_rfl) (by kernel_rfl) (by kernel_rfl) (by kernel_rfl) (λ_ _ _ c=>c) rfl ?_ s ?_;rotate_left
   ·intro w' g
    try dsimp only at g
    go_simp
    try with_reducible rfl
   try simp only[Act.put]
   refine aT (i:=4) (v:= ?_) rfl (by kernel_rfl) (by kernel_rfl) (by kernel_rfl) (by kernel_rfl) (λ_ _ _ c=>c) rfl ?_ s ?_;rotate_left
   ·intro w' g
    try dsimp only at g
    go_simp
    try with_reducible rfl
   try simp only[Act.put]
   refine aT (i:=5) (v:= ?_) rfl (by kernel_rfl) (by kernel_rfl) (by kernel_rfl) (by kernel_rfl) (λ_ _ _ c=>c) rfl ?_ s ?_;rotate_left
   ·intro w' g
    try dsimp only at g
    go_simp
    try with_reducible rfl
   try simp only[Act.put]
   refine aT (i:=6) (v:= ?_) rfl (by kernel_rfl) (by kernel_rfl) (by kernel_rfl) (by kernel_rfl) (λ_ _ _ c=>c) rfl ?_ s ?_;rotate_left
   ·intro w' g
    try dsimp only at g
    go_simp
    try with_reducible rfl
   try simp only[Act.put]
   refine aT (i:=7) (v:= ?_) rfl (by kernel_rfl) (by kernel_rfl) (by kernel_rfl) (by kernel_rfl) (λ_ _ _ c=>c) rfl ?_ s ?_;rotate_left
   ·intro w' g
    try dsimp only at g
    go_simp
    try with_reducible rfl
   try simp only[Act.put]
   refine cT (i:=8) (by kernel_rfl) rfl rfl (λx m=>?_) (by decide)
   go_simp
   refine m _ _ (λ_=>X) (λbC=>?_);clear m x
   try simp only[Act.put,bY,dj,di]
   refine cT (i:=9) (by kernel_rfl) rfl rfl (λx m=>?_) (by decide);refine wp_append_lies _ _ _ 134 rfl base 196 I _ 5 64 underlying134 O.1 O.2.1 O.2.2.1 O.2.2.2 rfl (by decide) (ae h L j) L xs rfl aw ⟨d.heap.size,0,none⟩ 1 1 (NR y a) rfl rfl (World.news_of_block (cs:= #[ab y,ab a.1.1,ab a.1.2.1,af a.1.2.2,ae a.2.1.1 a.2.2.length a.2.1.2]) (t:=196) (fr:=(0,0)) av) (by simp[NR,Value.oneCell']) (by decide) (by unfold maxLen;omega) (by omega) (by have:=F.out;have:=P.out;omega) _ rfl ?_;intro G bd q aU z Y bf;have a6:Hid (br (λn=>(Value.slice h L j).ownBlock=some n) w q):=br.trans (aJ K _) (eh z) λ_ _ e=>e;have a3:Hid ((Value.slice h L j).ownBlock=some G\/w.heap.size<=G):=by
    rcases Y with e|e
    ·exact ah e
    ·exact ai (by have:=F.out;have:=P.out;omega)
   have a8:=aq aU;have V:Hid (∀b,(Value.slice h L j).ownBlock=some b->b<w.heap.size):=λb Z=>(ay.lt b Z).2;have aG:Hid (In q.heap.size q (N+1) a/\cd (λn=>w.heap.size<=n/\n≠G) (N+1) a):=by
    have aS:cd (λn=>w.heap.size<=n/\n<u.heap.size) (N+1) a:=(In.offB bb aH).mono λn H=>⟨az ba H.1,H.2⟩;refine⟨aI.kee (eh z) (aS.mono λn H e=>?_),aS.mono λn H=>⟨H.1,λe=>?_⟩⟩
    ·have:=V n e;omega
    ·rcases Y with aK|aK
     ·have:=V G aK;omega
     ·have:=F.out;have:=P.out;omega
   have T:Hid ((q.cell? ⟨f,3,none⟩=some (ae h L j)/\q.cell? ⟨p,0,none⟩=some (ab a.1.1)/\q.cell? ⟨p,1,none⟩=some (ab a.1.2.1)/\q.cell? ⟨p,2,none⟩=some (af a.1.2.2)/\q.cell? ⟨p,3,none⟩=some (ae a.2.1.1 a.2.2.length a.2.1.2))/\q.frozen? ⟨f,3,none⟩=false):=by
    have bG:=F.out;have bH:=P.out;have bI:=a9.out;have bg:some p≠(Value.slice h L j).ownBlock:=λe=>by
     have:=V p e.symm;omega
    have aW:some f≠(Value.slice h L j).ownBlock:=λe=>a7 e.symm;have k:=λbh=>z.cell_far ⟨p,bh,none⟩ (by show p<_;omega) bg;obtain⟨bj,bk,bl,bm,bn⟩:=X;refine⟨⟨(z.cell_far ⟨f,3,none⟩ (by show f<_;omega) aW).trans bj,(k 0).trans bk,(k 1).trans bl,(k 2).trans bm,(k 3).trans bn⟩,?_⟩;rw[z.frozen_far ⟨f,3,none⟩ (by show f<_;omega) aW];have aP:=au.2;unfold World.frozen? at aP ⊢;rw[K.out.block f aO];exact aP
   clear aU z Y bf;refine m _ _ (λ_=>T.1) (λaL=>?_);clear m x
   try simp only[Act.put,bY]
   refine cT (i:=10) (by kernel_rfl) rfl rfl (λx m=>?_) (by decide)
   go_simp
   refine m _ _ (λ_=>aL) (λ_=>?_);clear m x
   try simp only[Act.put,bY,dj,di]
   refine aT (i:=11) (v:= ?_) rfl (by kernel_rfl) (by kernel_rfl) (by kernel_rfl) (by kernel_rfl) (λ_ _ _ c=>c) rfl ?_ aL ?_;rotate_left
   ·intro w' g
    try dsimp only at g
    go_simp
    try with_reducible rfl
   try simp only[Act.put,bY]
   have bq:=T.2;have bp:=T.1.1;refine jA (by kernel_rfl) rfl rfl (by kernel_rfl) (λx m=>?_)
   go_simp
   refine m _ _ (NoPanic.normal ?_);clear m x
   try simp only[Act.put,bY,dj,di]
   go_wp2_with fail
   go_ret
   exact⟨rfl,λc=>(by cases c),λ_=>⟨y,a,G,bd,q,a5.out,bc.out,aG.out.1,aG.out.2,a8.out,a6.out,a3.out,rfl⟩⟩
end Go.Proofs.YtmmahddlcldmiaaGreatDoor
