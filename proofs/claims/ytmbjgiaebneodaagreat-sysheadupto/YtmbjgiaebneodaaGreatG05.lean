/- What is proved here: plain facts and contracts that the claimed theorem stands on. No condition but those that each names. -/
import Derived.Test.YtmbjgiaebneodaaGreatG04
import Derived.Deep.RegionHeld3
import Derived.Deep.DrawnRows
namespace Go.Proofs.YtmbjgiaebneodaaGreat
open Go.RowKit
set_option maxHeartbeats 400000
def Off (P:Nat->Prop):(n:Nat)->Tm n->Prop
 | 0,_=>False
 | n+1,x=>x.2.2=[]∨∃b o,x.2.1.1=some ⟨b,o,none⟩/\P b/\∀(i:Nat) (y:Tm n),x.2.2[i]? =some y->Off P n y
theorem Off.mono {P Q:Nat->Prop} (h:∀b,P b->Q b):{n:Nat}->{x:Tm n}->Off P n x->Off Q n x
 | 0,_,k=>k
 | _+1,_,k=>by
  rcases k with k|⟨b,o,e,hb,k⟩
  ·exact Or.inl k
  ·exact Or.inr ⟨b,o,e,h b hb,fun i y hy=>(k i y hy).mono h⟩
theorem aK {w w':World} {b:Nat} (h:w'.heap[b]? =w.heap[b]?) (o:Nat):w'.cell? ⟨b,o,none⟩=w.cell? ⟨b,o,none⟩:=by
 simp[World.cell?,h]
theorem Held.block {w w':World} {b o:Nat} (h:w'.heap[b]? =w.heap[b]?):{n:Nat}->{x:Tm n}->Held w b o n x->Held w' b o n x
 | 0,_,k=>k
 | _+1,_,k=>by
  obtain⟨k0,k1,k2,k3⟩:=k
  exact⟨(aK h _).trans k0,(aK h _).trans k1,(aK h _).trans k2,(aK h _).trans k3⟩
theorem In.off {P:Nat->Prop} {w w':World} (h:∀b,P b->w'.heap[b]? =w.heap[b]?) {B:Nat}:{n:Nat}->{x:Tm n}->Off P n x->In B w n x->In B w' n x
 | 0,_,_,k=>k
 | _+1,_,p,k=>by
  obtain⟨k0,k1⟩:=k
  refine⟨k0, ?_⟩
  rcases k1 with k1|⟨b,o,e,hb,k1⟩
  ·exact Or.inl k1
  ·rcases p with p|⟨b',o',e',hb',p⟩
   ·exact Or.inl p
   ·rw[e]at e'
    injection e' with e'
    injection e' with e1 e2
    subst e1 e2
    exact Or.inr ⟨b,o,e,hb,fun i y hy=>⟨(k1 i y hy).1.block (h b hb'),(k1 i y hy).2.off h (p i y hy)⟩⟩
theorem In.offB {P:Nat->Prop} {B:Nat} {w:World}:{n:Nat}->{x:Tm n}->Off P n x->In B w n x->Off (fun b=>P b/\b<B) n x
 | 0,_,p,_=>p
 | _+1,_,p,k=>by
  obtain⟨_,k1⟩:=k
  rcases p with p|⟨b,o,e,hb,p⟩
  ·exact Or.inl p
  ·rcases k1 with k1|⟨b',o',e',hb',k1⟩
   ·exact Or.inl k1
   ·rw[e]at e'
    injection e' with e'
    injection e' with e1 e2
    subst e1 e2
    exact Or.inr ⟨b,o,e,⟨hb,hb'⟩,fun i y hy=>In.offB (p i y hy) (k1 i y hy).2⟩
def gZ:(n:Nat)->Tm n->Nd
 | 0,_=>((0,0,⟨#[]⟩),(none,0,0))
 | n+1,x=>aL n x
def tu (a:An):Nd:=gZ a.1 a.2
def eH (l:List An):List Value:=bJ (l.map tu)
theorem jB (l:List An):(eH l).length=l.length*4:=by simp[eH,lV]
theorem Cn (l:List An):∀u∈eH l,u.oneCell'=true:=sJ _
def Has (base:Nat) (g c:Nat) (b:List An) (w:World):Prop:=w.ownsRow base 30 4 (.slice (some ⟨g,0,none⟩) b.length c) b.length (eH b)
theorem Has.cells {base g c:Nat} {b:List An} {w:World} (h:Has base g c b w) (i:Nat) (y:An) (hy:b[i]? =some y):
    w.cell? ⟨g,i*4,none⟩=some (.int .i64 (tu y).1.1)/\w.cell? ⟨g,i*4+1,none⟩=some (.int .i64 (tu y).1.2.1)/\w.cell? ⟨g,i*4+2,none⟩=some (.string (tu y).1.2.2)/\w.cell? ⟨g,i*4+3,none⟩=some (.slice (tu y).2.1 (tu y).2.2.1 (tu y).2.2.2):=
 JR (l:=b.map tu) h i (tu y) (by simp[hy])
theorem Has.lt {base g c:Nat} {b:List An} {w:World} (h:Has base g c b w):base<=g/\g<w.heap.size:=World.ownsRow.lt h g rfl
theorem Has.kept {base g c:Nat} {b:List An} {w w':World} (h:Has base g c b w) {row:Option Nat} (hg:w.grownBy w' row) (hne:row≠some g):Has base g c b w':=
 World.ownsRow.kept h hg (Or.inr fun e=>hne e.symm)
theorem bB {w w':World} (h:Below w.heap.size w w') (row:Option Nat):w.grownBy w' row:=⟨h.os,h.tape,h.output,h.size,fun k hk _=>h.block k hk⟩
theorem Has.below {base g c:Nat} {b:List An} {w w':World} (h:Has base g c b w) (hb:Below w.heap.size w w'):Has base g c b w':=h.kept (bB hb none) (by simp)
theorem mi {w w':World} {g B:Nat} (h:w.grownBy w' (some g)) (hB:B<=g) (hg:g<w.heap.size):Below B w w':=⟨h.os,h.tape,h.output,h.size,fun k hk=>h.block k (by omega) (by simp;omega)⟩
theorem jW {w w1 w2:World} {row:Option Nat} (h:w.grownBy w1 row) (k:w1.grownBy w2 row):w.grownBy w2 row:=
 ⟨k.os.trans h.os,k.tape.trans h.tape,k.output.trans h.output,Nat.le_trans h.size k.size,fun b hb hne=>(k.block b (Nat.lt_of_lt_of_le hb h.size) hne).trans (h.block b hb hne)⟩
theorem Has.free {base g c:Nat} {b:List An} {w:World} (h:Has base g c b w) (j:Nat):w.frozen? ⟨g,j,none⟩=false:=by
 obtain⟨h1,h2⟩:=h
 rcases h2 with⟨h2,_⟩|⟨g',cap,cur,hv,hg,hh,hc,hm,hz,he⟩
 ·simp at h2
 ·injection hv with e1 e2 e3
  injection e1 with e1
  injection e1 with e1 _
  subst e1
  simp[World.frozen?,hh]
def bK (w:World) (g o:Nat) (v0 v1 v2 v3:Value):World:=(((w.setCell ⟨g,o,none⟩ v0).setCell ⟨g,o+1,none⟩ v1).setCell ⟨g,o+2,none⟩ v2).setCell ⟨g,o+3,none⟩ v3
def iJ (w:World) (g o:Nat) (x:Nd):World:=bK w g o (.int .i64 x.1.1) (.int .i64 x.1.2.1) (.string x.1.2.2) (.slice x.2.1 x.2.2.1 x.2.2.2)
theorem iI {w:World} {base e size g L c:Nat} {xs:List Value} (h:w.ownsRow base e size (.slice (some ⟨g,0,none⟩) L c) L xs) (j:Nat) (u:Value):
    (w.setCell ⟨g,j,none⟩ u).ownsRow base e size (.slice (some ⟨g,0,none⟩) L c) L (xs.set j u):=by
 obtain⟨h1,h2⟩:=h
 refine⟨by simpa using h1, ?_⟩
 rcases h2 with⟨h2,_⟩|⟨g',cap,cur,hv,hg,hh,hc,hm,hz,he⟩
 ·simp at h2
 ·injection hv with e1 e2 e3
  injection e1 with e1
  injection e1 with e1 _
  subst e1 e3
  refine Or.inr ⟨g,c,cur.setIfInBounds j u,rfl,hg, ?_,hc,hm,by simpa using hz, ?_⟩
  ·simp[World.setCell,Array.getElem?_modify,hh]
  ·rw[<-he]
   simp[List.take_set]
theorem sw:(l:List Nd)->(i:Nat)->(x:Nd)->i<l.length->
    ((((bJ l).set (i*4) (.int .i64 x.1.1)).set (i*4+1) (.int .i64 x.1.2.1)).set (i*4+2) (.string x.1.2.2)).set (i*4+3) (.slice x.2.1 x.2.2.1 x.2.2.2)=bJ (l.set i x)
 | [],i,x,h=>by simp at h
 | y::l,0,x,_=>by simp[bJ,yn]
 | y::l,i+1,x,h=>by
  have ih:=sw l i x (by simpa using h)
  have e:bJ (y::l)=yn y++bJ l:=rfl
  have e':bJ ((y::l).set (i+1) x)=yn y++bJ (l.set i x):=rfl
  have hy:(yn y).length=4:=rfl
  rw[e,e',<-ih]
  rw[List.set_append_right _ _ (by rw[hy];omega),List.set_append_right _ _ (by rw[hy];omega),List.set_append_right _ _ (by rw[hy];omega),List.set_append_right _ _ (by rw[hy];omega),hy]
  rw[show (i+1)*4-4=i*4 by omega,show (i+1)*4+1-4=i*4+1 by omega,show (i+1)*4+2-4=i*4+2 by omega,show (i+1)*4+3-4=i*4+3 by omega]
theorem Has.put {base g c:Nat} {b:List An} {w:World} (h:Has base g c b w) (i:Nat) (t:An) (hi:i<b.length):Has base g c (b.set i t) (iJ w g (i*4) (tu t)):=by
 have h4:=iI (iI (iI (iI h (i*4) (.int .i64 (tu t).1.1)) (i*4+1) (.int .i64 (tu t).1.2.1)) (i*4+2) (.string (tu t).1.2.2)) (i*4+3) (.slice (tu t).2.1 (tu t).2.2.1 (tu t).2.2.2)
 unfold eH at h4
 rw[sw (b.map tu) i (tu t) (by simpa using hi)]at h4
 unfold Has eH
 rw[List.map_set,List.length_set]
 exact h4
theorem aA {w:World} {g b o:Nat} (h:b≠g) (v0 v1 v2 v3:Value):(bK w g o v0 v1 v2 v3).heap[b]? =w.heap[b]? :=by
 have hne:g≠b:=fun e=>h e.symm
 simp[bK,World.setCell,Array.getElem?_modify,hne]
theorem aJ {w:World} {g o:Nat} (v0 v1 v2 v3:Value):(bK w g o v0 v1 v2 v3).heap.size=w.heap.size:=by simp[bK,World.setCell]
theorem Fq {w:World} {g o:Nat} (v0 v1 v2 v3:Value):w.grownBy (bK w g o v0 v1 v2 v3) (some g):=
 ⟨rfl,rfl,rfl,Nat.le_of_eq (aJ _ _ _ _).symm,fun k _ hne=>aA (fun e=>hne (by rw[e])) _ _ _ _⟩
theorem boxed {w w':World} {v0 v1 v2 v3:Value} {t:TypeId} (hb:Below (w.alloc (.cells #[v0,v1,v2,v3] t)).heap.size (w.alloc (.cells #[v0,v1,v2,v3] t)) w'):
    (w'.cell? ⟨w.heap.size,0,none⟩=some v0/\w'.cell? ⟨w.heap.size,1,none⟩=some v1/\w'.cell? ⟨w.heap.size,2,none⟩=some v2/\w'.cell? ⟨w.heap.size,3,none⟩=some v3)/\
    (w'.frozen? ⟨w.heap.size,0,none⟩=false/\w'.frozen? ⟨w.heap.size,1,none⟩=false/\w'.frozen? ⟨w.heap.size,2,none⟩=false/\w'.frozen? ⟨w.heap.size,3,none⟩=false):=by
 have hc:=fun o=>hb.cell (p:=⟨w.heap.size,o,none⟩) (by simp)
 have hf:=fun o=>hb.frozen (p:=⟨w.heap.size,o,none⟩) (by simp)
 exact⟨⟨(hc 0).trans (by simp[go_sem]),(hc 1).trans (by simp[go_sem]),(hc 2).trans (by simp[go_sem]),(hc 3).trans (by simp[go_sem])⟩,(hf 0).trans (by simp[go_sem]),(hf 1).trans (by simp[go_sem]),(hf 2).trans (by simp[go_sem]),(hf 3).trans (by simp[go_sem])⟩
theorem lU {w1 w2:World} {q:Nat} {u0 u1 u2 u3:Value} (hq:q<w1.heap.size) (h:Below w1.heap.size w1 w2)
    (k:w1.cell? ⟨q,0,none⟩=some u0/\w1.cell? ⟨q,1,none⟩=some u1/\w1.cell? ⟨q,2,none⟩=some u2/\w1.cell? ⟨q,3,none⟩=some u3):
    w2.cell? ⟨q,0,none⟩=some u0/\w2.cell? ⟨q,1,none⟩=some u1/\w2.cell? ⟨q,2,none⟩=some u2/\w2.cell? ⟨q,3,none⟩=some u3:=by
 obtain⟨b0,b1,b2,b3⟩:=k
 have hcc:=af h
 exact⟨(hcc _ _ hq).trans b0,(hcc _ _ hq).trans b1,(hcc _ _ hq).trans b2,(hcc _ _ hq).trans b3⟩
def FitPost (base g c:Nat) (o:Option (List An)) (w:World) (e:Ending) (w':World):Prop:=
 e=.returned (.bool o.isSome)/\w.grownBy w' (some g)/\∀b,o=some b->Has base g c b w'
def Bnd (B:Nat) (w:World) (b:List An):Prop:=b.length=4/\∀y∈b,InA B w y/\ai y
theorem InA.below {B:Nat} {w w':World} (h:Below B w w') {x:An} (k:InA B w x):InA B w' x:=In.below h k
theorem Bnd.below {B:Nat} {w w':World} (h:Below B w w') {b:List An} (k:Bnd B w b):Bnd B w' b:=⟨k.1,fun y hy=>⟨(k.2 y hy).1.below h,(k.2 y hy).2⟩⟩
theorem Bnd.fit {B:Nat} {w:World} {b b':List An} (k:Bnd B w b) {n m:Nat} {p:Tm n} {t:Tm m} (ht:In B w m t) (hr:ai ⟨m,t⟩) (h:fit n p m t b=some b'):Bnd B w b':=
 mE (fun x=>InA B w x/\ai x) (Ip (JD B w) aH) n p m t ⟨ht,hr⟩ b b' k h
def Pe (n:Nat):Prop:=∀(p:Tm n) (m:Nat) (t:Tm m) (b:List An) (base g c B:Nat) (w:World),In B w n p->In B w m t->ai ⟨n,p⟩->ai ⟨m,t⟩->Bnd B w b->B<=base->Has base g c b w->
 Calls Tryz.prog 123 #[.slice (some ⟨g,0,none⟩) 4 c,val n p,val m t] w (FitPost base g c (fit n p m t b) w)
theorem wG (x y:Int) (w:World):
    Calls Tryz.prog 140 #[.int .i64 x,.int .i64 y] w fun e w'=>e=.returned (.int .i64 (mI x y))/\w'=w:=by
 go_enter Tryz.func140,Tryz.ntmps140
 go_wp2
 all_goals go_ret
 all_goals refine⟨gY ?_,rfl⟩
 all_goals unfold mI
 all_goals (repeat' split)<;>omega
theorem L9 (x y:ByteArray) (w:World):
    Calls Tryz.prog 141 #[.string x,.string y] w fun e w'=>e=.returned (.int .i64 (wX x y))/\w'=w:=by
 go_enter Tryz.func141,Tryz.ntmps141
 go_wp2
 all_goals go_ret
 all_goals refine⟨gY ?_,rfl⟩
 all_goals unfold wX
 all_goals simp[*]
attribute [local go_sem ↓] Go.wp_at_zero Go.wp_at_succ
def F5 (n:Nat):Prop:=∀(x:Tm n) (m:Nat) (y:Tm m) (B:Nat) (w:World),In B w n x->In B w m y->B<=w.heap.size->
 Calls Tryz.prog 135 #[val n x,val m y] w fun e w'=>e=.returned (.int .i64 (yh n x m y))/\Below w.heap.size w w'
theorem MZ (p q:Nat) (a c:Option Addr) (pc qc:Nat) (w:World) (_hpc:p<=9223372036854775807) (_hqc:q<=9223372036854775807) (hl:((p:Int)==(q:Int))=false):
    Calls Tryz.prog 142 #[.slice a p pc,.slice c q qc] w fun e w'=>e=.returned (.int .i64 (mI p q))/\w'=w:=by
 have hl':((p:Int) !=(q:Int))=true:=by simpa using hl
 go_enter Tryz.func142,Tryz.ntmps142
 go_wp2_with (go_at_call 140;refine(wG _ _ _).mono ?_;rintro e w' ⟨rfl,rfl⟩)
 go_ret
 exact⟨rfl,rfl⟩
theorem MK (n m:Nat) (ih:F5 n) (p:List (Tm n)) (q:List (Tm m)) (len:Nat) (hpl:Hid (p.length=len)) (hql:Hid (q.length=len)) (pb po qb qo pc qc:Nat) (B:Nat) (w:World)
    (hlen:len<=9223372036854775807) (hpb:pb<B) (hqb:qb<B)
    (hp:∀(i:Nat) (y:Tm n),p[i]? =some y->Held w pb (po+i*4) n y/\In B w n y)
    (hq:∀(i:Nat) (y:Tm m),q[i]? =some y->Held w qb (qo+i*4) m y/\In B w m y)
    (hB:B<=w.heap.size):
    Calls Tryz.prog 142 #[.slice (some ⟨pb,po,none⟩) len pc,.slice (some ⟨qb,qo,none⟩) len qc] w fun e w'=>
     e=.returned (.int .i64 (nS (fun a b=>yh n a m b) p q))/\Below w.heap.size w w':=by
 go_enter Tryz.func142,Tryz.ntmps142
 go_wp2_with fail
 go_loopw [19] (fun i wr=>∃k:Nat,k<=len/\i=.int .i64 k/\Below w.heap.size w wr/\Hid (nS (fun a b=>yh n a m b) (p.drop k) (q.drop k)=nS (fun a b=>yh n a m b) p q)) (fun i _=>len-(intOf i).toNat)
 case atStart=>exact⟨0,by omega,rfl,Below.refl _ _,rfl⟩
 case round=>
  obtain⟨k,hk,rfl,hb,hd⟩:=hrel
  by_cases hlt:k<len
  ·obtain⟨x,hx⟩:∃x,p[k]? =some x:=⟨p[k]'(by rw[hpl.out];exact hlt),List.getElem?_eq_getElem _⟩
   obtain⟨y,hy⟩:∃y,q[k]? =some y:=⟨q[k]'(by rw[hql.out];exact hlt),List.getElem?_eq_getElem _⟩
   obtain⟨hx1,hx2⟩:=hp k x hx
   obtain⟨hy1,hy2⟩:=hq k y hy
   have HS:Hid (nS (fun a b=>yh n a m b) (p.drop k) (q.drop k)=if yh n x m y=0 then nS (fun a b=>yh n a m b) (p.drop (k+1)) (q.drop (k+1))else yh n x m y):=Ih (fun a b=>yh n a m b) p q k x y hx hy
   replace hx1:=hx1.below (hb.mono hB) hpb
   replace hy1:=hy1.below (hb.mono hB) hqb
   replace hx2:=hx2.below (hb.mono hB)
   replace hy2:=hy2.below (hb.mono hB)
   clear hp hq hx hy
   cases n with
   | zero=>exact hx1.elim
   | succ n=>
   cases m with
   | zero=>exact hy1.elim
   | succ m=>
   obtain⟨x0,x1,x2,x3⟩:=hx1
   obtain⟨y0,y1,y2,y3⟩:=hy1
   have hc:∀(w1:World),In B w1 (n+1) x->In B w1 (m+1) y->B<=w1.heap.size->Calls Tryz.prog 135 #[.agg #[.int .i64 x.1.1,.int .i64 x.1.2.1,.string x.1.2.2,.slice x.2.1.1 x.2.2.length x.2.1.2],.agg #[.int .i64 y.1.1,.int .i64 y.1.2.1,.string y.1.2.2,.slice y.2.1.1 y.2.2.length y.2.1.2]] w1 fun e w'=>e=.returned (.int .i64 (yh (n+1) x (m+1) y))/\Below w1.heap.size w1 w':=fun w1 h1 h2 h3=>ih x (m+1) y B w1 h1 h2 h3
   have HC:=hide hc
   clear hc ih
   have HX:=hide hx2
   have HY:=hide hy2
   clear hx2 hy2
   generalize yh (n+1) x (m+1) y=r at*
   generalize x.2.2.length=xl at*
   generalize y.2.2.length=yl at*
   have hk1:(0:Int)<=(k:Int):=by omega
   have hk2:(k:Int)<(len:Int):=by omega
   have hB':B<=wr.heap.size:=Nat.le_trans hB hb.size
   have HCD:=hide (HC.out wr.drew (HX.out.below (Below.refl _ _).drew) (HY.out.below (Below.refl _ _).drew) hB')
   have hpw:pb<wr.heap.size:=by omega
   have hqw:qb<wr.heap.size:=by omega
   clear HC HX HY
   go_wp2_with fail
   go_region_held3 (fun w'=>w'.cell? ⟨pb,po+k*4,none⟩=some (.int .i64 x.1.1)/\w'.cell? ⟨pb,po+k*4+1,none⟩=some (.int .i64 x.1.2.1)/\w'.cell? ⟨pb,po+k*4+2,none⟩=some (.string x.1.2.2)/\w'.cell? ⟨pb,po+k*4+3,none⟩=some (.slice x.2.1.1 xl x.2.1.2)
       /\w'.cell? ⟨qb,qo+k*4,none⟩=some (.int .i64 y.1.1)/\w'.cell? ⟨qb,qo+k*4+1,none⟩=some (.int .i64 y.1.2.1)/\w'.cell? ⟨qb,qo+k*4+2,none⟩=some (.string y.1.2.2)/\w'.cell? ⟨qb,qo+k*4+3,none⟩=some (.slice y.2.1.1 yl y.2.1.2))
    (go_keep) ((go_at_call 135;refine HCD.out.mono ?_;rintro e w1 ⟨rfl,hb1⟩;have hcc:=af (bz hb1)))
   have hb2:Below w.heap.size w w1:=hb.trans ((bz hb1).mono hb.size)
   by_cases hr:r=0
   ·have HR:Hid (r=0):=hr
    have hr1:(r !=0)=false:=by rw[hr];rfl
    clear hr
    go_wp2_with fail
    go_roundw
    case rel=>exact⟨k+1,by omega,by go_num,hb2,by rw[<-hd.out,HS.out,if_pos HR.out];rfl⟩
    case measure=>simp[intOf];omega
   ·have HR:Hid (¬r=0):=hr
    have hr1:(r !=0)=true:=by simpa using hr
    clear hr
    go_wp2_with fail
    go_ret
    exact⟨gY (by rw[<-hd.out,HS.out,if_neg HR.out]),hb2⟩
  ·go_wp2_with fail
   go_ret
   refine⟨gY ?_,hb⟩
   rw[<-hd.out,List.drop_eq_nil_of_le (by rw[hpl.out];omega)]
   rfl
theorem Bn (n m:Nat) (a c:Option Addr) (pc qc:Nat) (w:World):
    Calls Tryz.prog 142 #[.slice a ([]:List (Tm n)).length pc,.slice c ([]:List (Tm m)).length qc] w fun e w'=>e=.returned (.int .i64 (nS (fun a b=>yh n a m b) [] []))/\Below w.heap.size w w':=by
 show Calls Tryz.prog 142 #[.slice a 0 pc,.slice c 0 qc] w fun e w'=>e=.returned (.int .i64 0)/\Below w.heap.size w w'
 go_enter Tryz.func142,Tryz.ntmps142
 go_wp2_with fail
 go_loop [19] (fun i=>i=.int .i64 0) (fun _=>0)
 case atStart=>rfl
 case round=>
  obtain rfl:=hrel
  go_wp2_with fail
  go_ret
  exact⟨rfl,Below.refl _ _⟩
theorem EZ (w:World) (k k' u u':Int) (s s':ByteArray) (a a':Option Addr) (pl ql pc qc:Nat) (e:¬k=k'):
    Calls Tryz.prog 135 #[.agg #[.int .i64 k,.int .i64 u,.string s,.slice a pl pc],.agg #[.int .i64 k',.int .i64 u',.string s',.slice a' ql qc]] w fun e w'=>e=.returned (.int .i64 (mI k k'))/\Below w.heap.size w w':=by
 have hk:(k !=k')=true:=by simpa using e
 clear e
 go_enter Tryz.func135,Tryz.ntmps135
 go_wp2_with (go_at_call 140;refine(wG _ _ _).mono ?_;rintro e w' ⟨rfl,rfl⟩)
 go_ret
 exact⟨rfl,((Below.refl _ _).alloc (Nat.le_refl _) _).alloc (by simp) _⟩
theorem rT (w:World) (k u u':Int) (s s':ByteArray) (a a':Option Addr) (pl ql pc qc:Nat) (r:Int) (h:k=1∨k=3∨k=5):
    Calls Tryz.prog 135 #[.agg #[.int .i64 k,.int .i64 u,.string s,.slice a pl pc],.agg #[.int .i64 k,.int .i64 u',.string s',.slice a' ql qc]] w fun e w'=>e=.returned (.int .i64 (if k=1∨k=3∨k=5 then mI u u' else if k=2 then wX s s' else if k=4 then r else 0))/\Below w.heap.size w w':=by
 rw[if_pos h]
 rcases h with rfl|rfl|rfl
 all_goals
  go_enter Tryz.func135,Tryz.ntmps135
  go_wp2_with (go_at_call 140;refine(wG _ _ _).mono ?_;rintro e w' ⟨rfl,rfl⟩)
  go_ret
  exact⟨rfl,((Below.refl _ _).alloc (Nat.le_refl _) _).alloc (by simp) _⟩
theorem Ig (w:World) (u u':Int) (s s':ByteArray) (a a':Option Addr) (pl ql pc qc:Nat):
    Calls Tryz.prog 135 #[.agg #[.int .i64 2,.int .i64 u,.string s,.slice a pl pc],.agg #[.int .i64 2,.int .i64 u',.string s',.slice a' ql qc]] w fun e w'=>e=.returned (.int .i64 (wX s s'))/\Below w.heap.size w w':=by
 go_enter Tryz.func135,Tryz.ntmps135
 go_wp2_with (go_at_call 141;refine(L9 _ _ _).mono ?_;rintro e w' ⟨rfl,rfl⟩)
 go_ret
 exact⟨rfl,((Below.refl _ _).alloc (Nat.le_refl _) _).alloc (by simp) _⟩
theorem EK (w:World) (k u u':Int) (s s':ByteArray) (a a':Option Addr) (pl ql pc qc:Nat) (e1:¬k=1) (e2:¬k=2) (e3:¬k=3) (e4:¬k=4) (e5:¬k=5):
    Calls Tryz.prog 135 #[.agg #[.int .i64 k,.int .i64 u,.string s,.slice a pl pc],.agg #[.int .i64 k,.int .i64 u',.string s',.slice a' ql qc]] w fun e w'=>e=.returned (.int .i64 0)/\Below w.heap.size w w':=by
 have h1:(k==1)=false:=by simpa using e1
 have h2:(k==2)=false:=by simpa using e2
 have h3:(k==3)=false:=by simpa using e3
 have h4:(k==4)=false:=by simpa using e4
 have h5:(k==5)=false:=by simpa using e5
 clear e1 e2 e3 e4 e5
 go_enter Tryz.func135,Tryz.ntmps135
 go_wp2_with fail
 go_ret
 exact⟨rfl,((Below.refl _ _).alloc (Nat.le_refl _) _).alloc (by simp) _⟩
theorem GK (w:World) (u u':Int) (s s':ByteArray) (a a':Option Addr) (pl ql pc qc:Nat) (r:Int)
    (h:∀w1:World,Below w.heap.size w w1->Calls Tryz.prog 142 #[.slice a pl pc,.slice a' ql qc] w1 fun e w'=>e=.returned (.int .i64 r)/\Below w1.heap.size w1 w'):
    Calls Tryz.prog 135 #[.agg #[.int .i64 4,.int .i64 u,.string s,.slice a pl pc],.agg #[.int .i64 4,.int .i64 u',.string s',.slice a' ql qc]] w fun e w'=>e=.returned (.int .i64 r)/\Below w.heap.size w w':=by
 have H:=hide h
 clear h
 go_enter Tryz.func135,Tryz.ntmps135
 go_wp2_with fail
 refine(H.out _ (((Below.refl _ _).alloc (Nat.le_refl _) _).alloc (by simp) _)).mono ?_
 rintro e w' ⟨rfl,hb⟩
 go_wp2_with fail
 go_ret
 exact⟨rfl,(((Below.refl _ _).alloc (Nat.le_refl _) _).alloc (by simp) _).trans (hb.mono (by simp;omega))⟩
theorem Il (n:Nat):F5 n:=by
 induction n with
 | zero=>intro x m y B w hx;exact hx.elim
 | succ n ih=>
  intro x m y B w hx hy hB
  cases m with
  | zero=>exact hy.elim
  | succ m=>
  obtain⟨⟨k,u,s⟩,⟨a,pc⟩,p⟩:=x
  obtain⟨⟨k',u',s'⟩,⟨a',qc⟩,q⟩:=y
  obtain⟨⟨hk,hu,hs,hpl,hpc⟩,hp⟩:=hx
  obtain⟨⟨hk',hu',hs',hql,hqc⟩,hq⟩:=hy
  simp only at hk hu hs hpl hpc hp hk' hu' hs' hql hqc hq
  show Calls Tryz.prog 135 #[.agg #[.int .i64 k,.int .i64 u,.string s,.slice a p.length pc],.agg #[.int .i64 k',.int .i64 u',.string s',.slice a' q.length qc]] w fun e w'=>e=.returned (.int .i64 (if k=k' then
   if k=1∨k=3∨k=5 then mI u u' else if k=2 then wX s s' else if k=4 then if p.length=q.length then nS (fun a b=>yh n a m b) p q else mI p.length q.length
   else 0 else mI k k'))/\Below w.heap.size w w'
  have hargs:∀w1:World,Below w.heap.size w w1->Calls Tryz.prog 142 #[.slice a p.length pc,.slice a' q.length qc] w1 fun e w'=>e=.returned (.int .i64 (if p.length=q.length then nS (fun a b=>yh n a m b) p q else mI p.length q.length))/\Below w1.heap.size w1 w':=by
   intro w1 hw
   unfold maxLen at hpc hqc
   by_cases hl:p.length=q.length
   ·rw[if_pos hl]
    rcases hp with hp|⟨pb,po,rfl,hpb,hp⟩
    ·subst hp
     have hq0:q=[]:=List.eq_nil_of_length_eq_zero hl.symm
     subst hq0
     exact Bn n m a a' pc qc w1
    ·rcases hq with hq|⟨qb,qo,rfl,hqb,hq⟩
     ·subst hq
      have hp0:p=[]:=List.eq_nil_of_length_eq_zero hl
      subst hp0
      exact Bn n m _ a' pc qc w1
     ·have h:=MK n m ih p q p.length rfl hl.symm pb po qb qo pc qc B w1 (by omega) hpb hqb (fun i y hy=>⟨(hp i y hy).1.below (hw.mono hB) hpb,(hp i y hy).2.below (hw.mono hB)⟩)
        (fun i y hy=>⟨(hq i y hy).1.below (hw.mono hB) hqb,(hq i y hy).2.below (hw.mono hB)⟩) (Nat.le_trans hB hw.size)
      rw[hl]at h
      rw[hl]
      exact h
   ·rw[if_neg hl]
    refine(MZ p.length q.length a a' pc qc w1 (by omega) (by omega) (by simp;omega)).mono ?_
    rintro e w' ⟨rfl,rfl⟩
    exact⟨rfl,Below.refl _ _⟩
  generalize (if p.length=q.length then nS (fun a b=>yh n a m b) p q else mI p.length q.length)=r at*
  clear hp hq ih hpl hpc hql hqc hs hs' hB
  generalize p.length=pl at*
  generalize q.length=ql at*
  obtain⟨hk1,hk2⟩:=hk
  obtain⟨hk1',hk2'⟩:=hk'
  by_cases e:k=k'
  ·subst e
   rw[if_pos rfl]
   by_cases e1:k=1
   ·subst e1
    exact rT w 1 u u' s s' a a' pl ql pc qc r (Or.inl rfl)
   by_cases e3:k=3
   ·subst e3
    exact rT w 3 u u' s s' a a' pl ql pc qc r (Or.inr (Or.inl rfl))
   by_cases e5:k=5
   ·subst e5
    exact rT w 5 u u' s s' a a' pl ql pc qc r (Or.inr (Or.inr rfl))
   rw[if_neg (by omega)]
   by_cases e2:k=2
   ·subst e2
    exact Ig w u u' s s' a a' pl ql pc qc
   rw[if_neg e2]
   by_cases e4:k=4
   ·subst e4
    exact GK w u u' s s' a a' pl ql pc qc r hargs
   rw[if_neg e4]
   exact EK w k u u' s s' a a' pl ql pc qc e1 e2 e3 e4 e5
  ·rw[if_neg e]
   exact EZ w k k' u u' s s' a a' pl ql pc qc e
theorem iq (k u:Int) (s:ByteArray) (a:Option Addr) (l c:Nat) (w:World):
    Calls Tryz.prog 132 #[.agg #[.int .i64 k,.int .i64 u,.string s,.slice a l c]] w fun e w'=>e=.returned (.bool (!(k==6)))/\Below w.heap.size w w':=by
 cases h:k==6
 all_goals
  go_enter Tryz.func132,Tryz.ntmps132
  go_wp2_with fail
  go_ret
  exact⟨dH (by simp[bne,h]),(Below.refl _ _).alloc (Nat.le_refl _) _⟩
theorem AC (x:An) (y:An) (B:Nat) (w:World) (hx:InA B w x) (hy:InA B w y) (hB:B<=w.heap.size) (rx:ai x) (ry:ai y):
    Calls Tryz.prog 135 #[val x.1 x.2,val y.1 y.2] w fun e w'=>∃r,e=.returned (.int .i64 r)/\Hid ((r==0)=dx x y)/\Below w.heap.size w w':=by
 refine(Il x.1 x.2 y.1 y.2 B w hx hy hB).mono ?_
 rintro e w' ⟨rfl,hb⟩
 refine⟨_,rfl, ?_,hb⟩
 have h:=Dc x.1 x.2 y.1 y.2 rx ry
 unfold Hid dx
 cases hs:same x.1 x.2 y.1 y.2
 ·rw[hs]at h
  simp only[Bool.false_eq_true,iff_false]at h
  simpa using h
 ·rw[hs]at h
  simp only[iff_true]at h
  simpa using h
theorem KX (b:List An) (base g c B:Nat) (w:World) (k:Nat) (hk:k<4) (m:Nat) (t:Tm (m+1)) (hb:Bnd B w b) (ht:In B w (m+1) t) (hr:ai ⟨m+1,t⟩) (hB:B<=base) (H:Has base g c b w):
    Calls Tryz.prog 133 #[.slice (some ⟨g,0,none⟩) 4 c,.int .i64 k,.agg #[.int .i64 t.1.1,.int .i64 t.1.2.1,.string t.1.2.2,.slice t.2.1.1 t.2.2.length t.2.1.2]] w (FitPost base g c (wC b k ⟨m+1,t⟩) w):=by
 obtain⟨y,hy⟩:∃y,b[k]? =some y:=⟨b[k]'(by rw[hb.1];exact hk),List.getElem?_eq_getElem _⟩
 obtain⟨hy1,hy2⟩:=hb.2 y (List.mem_of_getElem? hy)
 obtain⟨n,y⟩:=y
 cases n with
 | zero=>exact hy1.elim
 | succ n=>
 have HV:Hid (wC b k ⟨m+1,t⟩=if y.1.1=6 then some (b.set k ⟨m+1,t⟩)else if dx ⟨n+1,y⟩ ⟨m+1,t⟩then some b else none):=by simp only[Hid,wC,hy,aU];rfl
 obtain⟨c0,c1,c2,c3⟩:=H.cells k _ hy
 simp only[tu,gZ,aL]at c0 c1 c2 c3
 have hk1:(0:Int)<=(k:Int):=by omega
 have hk2:(k:Int)<4:=by omega
 have HH:=hide H
 have HY:=hide hy
 have hgw:g<w.heap.size:=H.lt.2
 clear hy H
 generalize wC b k ⟨m+1,t⟩=o at*
 cases h6:y.1.1==6
 case true=>
  go_enter Tryz.func133,Tryz.ntmps133
  go_wp2_with fail
  refine(iq _ _ _ _ _ _ _).mono ?_
  rintro e w1 ⟨rfl,hb1⟩
  have HB1:=hide hb1
  clear c0 c1 c2 c3
  have H1:Hid (Has base g c b w1):=(HH.out.kept (World.grownBy_alloc w _ none) (by simp)).below hb1
  have hf:=fun j=>H1.out.free j
  obtain⟨⟨t0,t1,t2,t3⟩,_⟩:=boxed hb1
  obtain⟨c0,c1,c2,c3⟩:=H1.out.cells k _ HY.out
  simp only[tu,gZ,aL]at c0 c1 c2 c3
  clear hb1
  go_wp2_with fail
  go_ret
  have ho:o=some (b.set k ⟨m+1,t⟩):=by rw[HV.out,if_pos (by simpa using h6)]
  subst ho
  exact⟨rfl,jW (bB (((Below.refl _ _).alloc (Nat.le_refl _) _).trans (HB1.out.mono (by simp))) _) (Fq _ _ _ _),fun b' e=>by obtain rfl:=Option.some.inj e;exact H1.out.put k ⟨m+1,t⟩ (by rw[hb.1];exact hk)⟩
 case false=>
  go_enter Tryz.func133,Tryz.ntmps133
  go_wp2_with fail
  refine(iq _ _ _ _ _ _ _).mono ?_
  rintro e w1 ⟨rfl,hb1⟩
  clear c0 c1 c2 c3
  have HB1:Hid (Below w.heap.size w w1):=((Below.refl _ _).alloc (Nat.le_refl _) _).trans (hb1.mono (by simp))
  have H1:Hid (Has base g c b w1):=(HH.out.kept (World.grownBy_alloc w _ none) (by simp)).below hb1
  obtain⟨⟨t0,t1,t2,t3⟩,_⟩:=boxed hb1
  obtain⟨c0,c1,c2,c3⟩:=H1.out.cells k _ HY.out
  simp only[tu,gZ,aL]at c0 c1 c2 c3
  have HBB:Hid (B<=w.heap.size):=by have:=HH.out.lt;unfold Hid;omega
  have HLT:Hid (w.heap.size<w1.heap.size):=by have:=hb1.size;simp at this;unfold Hid;omega
  have HI:Hid (InA B w1 ⟨n+1,y⟩/\InA B w1 ⟨m+1,t⟩):=⟨hy1.below (HB1.out.mono HBB.out),InA.below (x:=⟨m+1,t⟩) (HB1.out.mono HBB.out) ht⟩
  have HO:=hide (AC ⟨n+1,y⟩ ⟨m+1,t⟩ B w1.drew (HI.out.1.below (Below.refl _ _).drew) (HI.out.2.below (Below.refl _ _).drew) (Nat.le_trans HBB.out HB1.out.size) hy2 hr)
  clear hb1 ht hy1 hb hy2 hr
  go_wp2_with fail
  go_region_held3 (fun w'=>w'.cell? ⟨g,k*4,none⟩=some (.int .i64 y.1.1)/\w'.cell? ⟨g,k*4+1,none⟩=some (.int .i64 y.1.2.1)/\w'.cell? ⟨g,k*4+2,none⟩=some (.string y.1.2.2)/\w'.cell? ⟨g,k*4+3,none⟩=some (.slice y.2.1.1 y.2.2.length y.2.1.2)
        /\w'.cell? ⟨w.heap.size,0,none⟩=some (.int .i64 t.1.1)/\w'.cell? ⟨w.heap.size,1,none⟩=some (.int .i64 t.1.2.1)/\w'.cell? ⟨w.heap.size,2,none⟩=some (.string t.1.2.2)/\w'.cell? ⟨w.heap.size,3,none⟩=some (.slice t.2.1.1 t.2.2.length t.2.1.2))
      (go_keep) ((go_at_call 135;refine HO.out.mono ?_;rintro e w2 ⟨r,rfl,HR,hb2⟩;have hcc:=af (bz hb2);have hgg:g<w1.heap.size:=Nat.lt_of_lt_of_le hgw HB1.out.size;have hgh:w.heap.size<w1.heap.size:=HLT.out))
  replace hb2:=bz hb2
  have HP:Hid (w.grownBy w2 (some g)/\Has base g c b w2):=⟨bB (HB1.out.trans (hb2.mono HB1.out.size)) _,H1.out.below hb2⟩
  have ho:o=if dx ⟨n+1,y⟩ ⟨m+1,t⟩then some b else none:=by rw[HV.out,if_neg (by simpa using h6)]
  rw[<-HR.out]at ho
  clear HR HV
  cases h0:r==0
  all_goals
   rw[h0]at ho
   go_wp2_with fail
   go_ret
   simp only[Bool.false_eq_true,if_false,if_true]at ho
   subst ho
  ·exact⟨rfl,HP.out.1,fun b' e=>by cases e⟩
  ·exact⟨rfl,HP.out.1,fun b' e=>by obtain rfl:=Option.some.inj e;exact HP.out.2⟩
def shut (x:Nd):Bool:= !(x.1.1==5) && !(x.1.1==6)
def ja (n:Nat) (x:Tm n):Bool:=(nodes n x).all shut
def av:(n:Nat)->Tm n->Bool
 | 0,_=>true
 | n+1,x=> !(x.1.1==5) && !(x.1.1==6) && x.2.2.all fun y=>av n y
theorem dQ:(n:Nat)->(x:Tm n)->av n x=ja n x
 | 0,_=>by simp[av,ja,nodes,shut]
 | n+1,x=>by
  have key:∀l:List (Tm n),(l.all fun y=>av n y)=(l.flatMap fun y=>nodes n y).all shut:=by
   intro l
   induction l with
   | nil=>rfl
   | cons y l ih=>
    have:=dQ n y
    unfold ja at this
    simp only[List.all_cons,List.flatMap_cons,List.all_append,ih,this]
  show (!(x.1.1==5) && !(x.1.1==6) && x.2.2.all fun y=>av n y)=(shut (x.1,(x.2.1.1,x.2.2.length,x.2.1.2)) && (x.2.2.flatMap fun y=>nodes n y).all shut)
  rw[key]
  rfl
def Qf (n:Nat):Prop:=∀(x:Tm n) (B:Nat) (w:World),In B w n x->B<=w.heap.size->
 Calls Tryz.prog 43 #[val n x] w fun e w'=>e=.returned (.bool (av n x))/\Below w.heap.size w w'
theorem Cx (n:Nat) (ih:Qf n) (k0 u0:Int) (s:ByteArray) (a:Option Addr) (pc len:Nat) (p:List (Tm n)) (hpl:Hid (p.length=len)) (B:Nat) (w:World)
    (hp:Hid (p=[]∨∃b o,a=some ⟨b,o,none⟩/\b<B/\∀(i:Nat) (y:Tm n),p[i]? =some y->Held w b (o+i*4) n y/\In B w n y))
    (hlen:len<=9223372036854775807) (hB:B<=w.heap.size):
    Calls Tryz.prog 43 #[.agg #[.int .i64 k0,.int .i64 u0,.string s,.slice a len pc]] w fun e w'=>e=.returned (.bool (!(k0==5) && !(k0==6) && p.all fun y=>av n y))/\Below w.heap.size w w':=by
 cases h5:k0==5
 case true=>
  go_enter Tryz.func43,Tryz.ntmps43
  go_wp2_with fail
  go_ret
  exact⟨aT (by simp),(Below.refl _ _).alloc (Nat.le_refl _) _⟩
 cases h6:k0==6
 case true=>
  go_enter Tryz.func43,Tryz.ntmps43
  go_wp2_with fail
  go_ret
  exact⟨aT (by simp),(Below.refl _ _).alloc (Nat.le_refl _) _⟩
 have e0:(!false && !false && p.all fun y=>av n y)=p.all fun y=>av n y:=by simp
 rw[e0]
 clear e0
 go_enter Tryz.func43,Tryz.ntmps43
 go_wp2_with fail
 go_loopw [16] (fun i wr=>∃k:Nat,k<=len/\i=.int .i64 k/\Below w.heap.size w wr/\Hid (((p.drop k).all fun y=>av n y)=p.all fun y=>av n y)) (fun i _=>len-(intOf i).toNat)
 case atStart=>exact⟨0,by omega,rfl,(Below.refl _ _).alloc (Nat.le_refl _) _,rfl⟩
 case round=>
  obtain⟨k,hk,rfl,hb,hd⟩:=hrel
  by_cases hlt:k<len
  ·obtain⟨x,hx⟩:∃x,p[k]? =some x:=⟨p[k]'(by rw[hpl.out];exact hlt),List.getElem?_eq_getElem _⟩
   have HS:Hid (((p.drop k).all fun y=>av n y)=(av n x && (p.drop (k+1)).all fun y=>av n y)):=by
    obtain⟨h1,e1⟩:=List.getElem?_eq_some_iff.1 hx
    rw[List.drop_eq_getElem_cons h1,e1]
    rfl
   rcases hp.out with hp|⟨pb,po,rfl,hpb,hp⟩
   ·subst hp;simp at hx
   obtain⟨hx1,hx2⟩:=hp k x hx
   replace hx1:=hx1.below (hb.mono hB) hpb
   replace hx2:=hx2.below (hb.mono hB)
   clear hp hx
   cases n with
   | zero=>exact hx1.elim
   | succ n=>
   obtain⟨x0,x1,x2,x3⟩:=hx1
   have hB':B<=wr.heap.size:=Nat.le_trans hB hb.size
   have HC:Hid (∀w1,Below wr.heap.size wr w1->Calls Tryz.prog 43 #[.agg #[.int .i64 x.1.1,.int .i64 x.1.2.1,.string x.1.2.2,.slice x.2.1.1 x.2.2.length x.2.1.2]] w1 fun e w'=>e=.returned (.bool (av (n+1) x))/\Below w1.heap.size w1 w'):=
    fun w1 h1=>ih x B w1 (hx2.below (h1.mono hB')) (Nat.le_trans hB' h1.size)
   clear ih hx2
   generalize x.2.2.length=xl at*
   generalize av (n+1) x=r at*
   have hk1:(0:Int)<=(k:Int):=by omega
   have hk2:(k:Int)<(len:Int):=by omega
   go_wp2_with fail
   refine(HC.out _ ((Below.refl _ _).alloc (Nat.le_refl _) _)).mono ?_
   rintro e w1 ⟨rfl,hb1⟩
   have hb2:Below w.heap.size w w1:=(hb.trans (((Below.refl _ _).alloc (Nat.le_refl _) _).mono hb.size)).trans (hb1.mono (by have:=hb.size;simp;omega))
   clear hb1
   cases r with
   | true=>
    go_wp2_with fail
    go_roundw
    case rel=>exact⟨k+1,by omega,by go_num,hb2,by rw[<-hd.out,HS.out];rfl⟩
    case measure=>simp[intOf];omega
   | false=>
    go_wp2_with fail
    go_ret
    exact⟨aT (by rw[<-hd.out,HS.out];rfl),hb2⟩
  ·go_wp2_with fail
   go_ret
   refine⟨aT ?_,hb⟩
   rw[<-hd.out,List.drop_eq_nil_of_le (by rw[hpl.out];omega)]
   rfl
theorem gN (n:Nat):Qf n:=by
 induction n with
 | zero=>intro x B w hx;exact hx.elim
 | succ n ih=>
  intro x B w hx hB
  obtain⟨⟨k,u,s⟩,⟨a,pc⟩,p⟩:=x
  obtain⟨⟨_,_,_,hpl,hpc⟩,hp⟩:=hx
  simp only at hpl hpc hp
  unfold maxLen at hpc
  exact Cx n ih k u s a pc p.length p rfl B w hp (by omega) hB
def dU:(n:Nat)->Tm n->Int
 | 0,_=>0
 | n+1,x=>if x.1.1=4 then 1+x.2.2.foldl (fun m y=>max m (dU n y)) 0 else 0
def rZ (n:Nat) (p:List (Tm n)) (k:Nat):Int:=(p.take k).foldl (fun m y=>max m (dU n y)) 0
theorem DN (n:Nat) (p:List (Tm n)) (k:Nat) (x:Tm n) (h:p[k]? =some x):rZ n p (k+1)=max (rZ n p k) (dU n x):=by
 obtain⟨h1,e1⟩:=List.getElem?_eq_some_iff.1 h
 unfold rZ
 rw[List.take_succ_eq_append_getElem h1,e1,List.foldl_append]
 rfl
theorem oo {n:Nat} (N:Int):(l:List (Tm n))->(m:Int)->0<=m->m<=N->(∀y∈l,0<=dU n y/\dU n y<=N)->0<=l.foldl (fun m y=>max m (dU n y)) m/\l.foldl (fun m y=>max m (dU n y)) m<=N
 | [],_,h0,h1,_=>⟨h0,h1⟩
 | y::l,m,h0,h1,h=>by
  have hy:=h y (by simp)
  exact oo N l (max m (dU n y)) (by omega) (by omega) (fun z hz=>h z (by simp[hz]))
theorem je {n:Nat} (l:List (Tm n)) (y:Tm n) (h:y∈l):(nodes n y).length<=(l.flatMap fun y=>nodes n y).length:=by
 obtain⟨i,hi⟩:=List.getElem?_of_mem h
 have e4:=FR (fun y=>nodes n y) l (i+1)
 rw[GI _ l i y hi,List.length_append]at e4
 omega
theorem eO:(n:Nat)->(x:Tm n)->0<=dU n x/\dU n x<=(nodes n x).length
 | 0,_=>by simp[dU]
 | n+1,x=>by
  have hb:=oo ((x.2.2.flatMap fun y=>nodes n y).length:Int) x.2.2 0 (by omega) (by omega) (fun y hy=>by
   have h1:=eO n y
   have h2:=je x.2.2 y hy
   omega)
  simp only[dU,nodes,List.length_cons]
  by_cases h4:x.1.1=4
  ·rw[if_pos h4];omega
  ·rw[if_neg h4];omega
theorem Br (n:Nat) (p:List (Tm n)) (k:Nat):0<=rZ n p k/\rZ n p k<=(p.flatMap fun y=>nodes n y).length:=
 oo _ (p.take k) 0 (by omega) (by omega) (fun y hy=>by
  have h1:=eO n y
  have h2:=je p y (List.mem_of_mem_take hy)
  omega)
def P9 (n:Nat):Prop:=∀(x:Tm n) (B:Nat) (w:World),In B w n x->B<=w.heap.size->(nodes n x).length<=2097152->
 Calls Tryz.prog 66 #[val n x] w fun e w'=>e=.returned (.int .i64 (dU n x))/\Below w.heap.size w w'
theorem Ed (k0 u0:Int) (s:ByteArray) (a:Option Addr) (len pc:Nat) (w:World) (h:¬k0=4):
    Calls Tryz.prog 66 #[.agg #[.int .i64 k0,.int .i64 u0,.string s,.slice a len pc]] w fun e w'=>e=.returned (.int .i64 0)/\Below w.heap.size w w':=by
 have h4:(k0 !=4)=true:=by simpa using h
 clear h
 go_enter Tryz.func66,Tryz.ntmps66
 go_wp2_with fail
 go_ret
 exact⟨rfl,(Below.refl _ _).alloc (Nat.le_refl _) _⟩
theorem Ie (n:Nat) (ih:P9 n) (u0:Int) (s:ByteArray) (a:Option Addr) (pc len:Nat) (p:List (Tm n)) (hpl:Hid (p.length=len)) (B:Nat) (w:World)
    (hp:Hid (p=[]∨∃b o,a=some ⟨b,o,none⟩/\b<B/\∀(i:Nat) (y:Tm n),p[i]? =some y->Held w b (o+i*4) n y/\In B w n y))
    (hlen:len<=9223372036854775807) (hB:B<=w.heap.size) (hsum:Hid (1+(p.flatMap fun y=>nodes n y).length<=2097152)):
    Calls Tryz.prog 66 #[.agg #[.int .i64 4,.int .i64 u0,.string s,.slice a len pc]] w fun e w'=>
     e=.returned (.int .i64 (1+p.foldl (fun m y=>max m (dU n y)) 0))/\Below w.heap.size w w':=by
 go_enter Tryz.func66,Tryz.ntmps66
 go_wp2_with fail
 go_loopw [3,12] (fun t i wr=>∃k:Nat,∃r:Int,k<=len/\i=.int .i64 k/\t=.int .i64 r/\Hid (r=rZ n p k)/\Below w.heap.size w wr) (fun _ i _=>len-(intOf i).toNat)
 case atStart=>exact⟨0,0,by omega,rfl,rfl,by simp[Hid,rZ],(Below.refl _ _).alloc (Nat.le_refl _) _⟩
 case round=>
  obtain⟨k,r,hk,rfl,rfl,hr,hb⟩:=hrel
  have e1:=Br n p k
  rw[<-hr.out]at e1
  have e5:=hsum.out
  have r1:0<=r:=e1.1
  have r2:r<=2097152:=by omega
  clear e1
  by_cases hlt:k<len
  ·obtain⟨x,hx⟩:∃x,p[k]? =some x:=⟨p[k]'(by rw[hpl.out];exact hlt),List.getElem?_eq_getElem _⟩
   have HS:=hide (DN n p k x hx)
   have e3:=je p x (List.mem_of_getElem? hx)
   have hx9:(nodes n x).length<=2097152:=by omega
   clear e3 e5
   rcases hp.out with hp|⟨pb,po,rfl,hpb,hp⟩
   ·subst hp;simp at hx
   obtain⟨hx1,hx2⟩:=hp k x hx
   replace hx1:=hx1.below (hb.mono hB) hpb
   replace hx2:=hx2.below (hb.mono hB)
   clear hp hx
   cases n with
   | zero=>exact hx1.elim
   | succ n=>
   obtain⟨x0,x1,x2,x3⟩:=hx1
   have hB':B<=wr.heap.size:=Nat.le_trans hB hb.size
   have HC:Hid (∀w1,Below wr.heap.size wr w1->Calls Tryz.prog 66 #[.agg #[.int .i64 x.1.1,.int .i64 x.1.2.1,.string x.1.2.2,.slice x.2.1.1 x.2.2.length x.2.1.2]] w1 fun e w'=>e=.returned (.int .i64 (dU (n+1) x))/\Below w1.heap.size w1 w'):=
    fun w1 h1=>ih x B w1 (hx2.below (h1.mono hB')) (Nat.le_trans hB' h1.size) hx9
   clear ih hx2 hx9
   generalize x.2.2.length=xl at*
   generalize dU (n+1) x=z at*
   have hk1:(0:Int)<=(k:Int):=by omega
   have hk2:(k:Int)<(len:Int):=by omega
   go_wp2_with fail
   refine(HC.out _ ((Below.refl _ _).alloc (Nat.le_refl _) _)).mono ?_
   rintro e w1 ⟨rfl,hb1⟩
   have hb2:Below w.heap.size w w1:=(hb.trans (((Below.refl _ _).alloc (Nat.le_refl _) _).mono hb.size)).trans (hb1.mono (by have:=hb.size;simp;omega))
   clear hb1
   have hmx:max r z=if r<z then z else r:=by split<;>omega
   have HMX:=hide hmx
   clear hmx
   go_wp2_with fail
   go_roundw
   case rel=>exact⟨k+1,_,by omega,by go_num,rfl,by simp only[Hid];rw[HS.out,<-hr.out,HMX.out],hb2⟩
   case measure=>simp[intOf];omega
  ·go_wp2_with fail
   go_ret
   refine⟨gY ?_,hb⟩
   rw[hr.out]
   unfold rZ
   rw[List.take_of_length_le (by rw[hpl.out];omega)]
theorem Jp (n:Nat):P9 n:=by
 induction n with
 | zero=>intro x B w hx;exact hx.elim
 | succ n ih=>
  intro x B w hx hB hsum
  obtain⟨⟨k,u,s⟩,⟨a,pc⟩,p⟩:=x
  obtain⟨⟨_,_,_,hpl,hpc⟩,hp⟩:=hx
  simp only at hpl hpc hp
  unfold maxLen at hpc
  have hL:(nodes (n+1) ((k,u,s),(a,pc),p)).length=1+(p.flatMap fun y=>nodes n y).length:=by simp only[nodes,List.length_cons];omega
  rw[hL]at hsum
  show Calls Tryz.prog 66 #[.agg #[.int .i64 k,.int .i64 u,.string s,.slice a p.length pc]] w fun e w'=>e=.returned (.int .i64 (if k=4 then 1+p.foldl (fun m y=>max m (dU n y)) 0 else 0))/\Below w.heap.size w w'
  by_cases h4:k=4
  ·subst h4
   exact Ie n ih u s a pc p.length p rfl B w hp (by omega) hB hsum
  ·rw[if_neg h4]
   exact Ed k u s a p.length pc w h4
def nU (n:Nat) (p:List (Tm n)) (k:Nat):Int:=1+p.length+((p.take k).map fun y=>sz n y).sum
theorem EP (n:Nat) (p:List (Tm n)) (k:Nat) (x:Tm n) (h:p[k]? =some x):nU n p (k+1)=nU n p k+sz n x:=by
 obtain⟨h1,e1⟩:=List.getElem?_eq_some_iff.1 h
 unfold nU
 rw[List.take_succ_eq_append_getElem h1,e1]
 simp
 omega
theorem Gw (n:Nat) (l:List (Tm n)):(l.map fun y=>1+sz n y).sum=l.length+(l.map fun y=>sz n y).sum:=by
 induction l with
 | nil=>simp
 | cons y l ih=>simp only[List.map_cons,List.sum_cons,List.length_cons,ih];omega
theorem IL (n:Nat) (p:List (Tm n)) (k:Nat) (h:p.length<=k):nU n p k=1+(p.map fun y=>1+sz n y).sum:=by
 unfold nU
 rw[List.take_of_length_le h,Gw]
 omega
theorem xX (n:Nat) (p:List (Tm n)):p.length<=(p.flatMap fun y=>nodes n y).length:=by
 induction p with
 | nil=>simp
 | cons y l ih=>
  have:1<=(nodes n y).length:=by cases n<;>simp[nodes]
  simp only[List.flatMap_cons,List.length_append,List.length_cons]
  omega
theorem BJ (n:Nat) (p:List (Tm n)) (k:Nat):0<=nU n p k/\nU n p k<=3*(1+(p.flatMap fun y=>nodes n y).length:Int):=by
 have h0:=xX n p
 have h:=FR (fun y=>nodes n y) p k
 have key:∀l:List (Tm n),0<=(l.map fun y=>sz n y).sum/\(l.map fun y=>sz n y).sum<=2*((l.flatMap fun y=>nodes n y).length:Int):=by
  intro l
  induction l with
  | nil=>exact⟨by simp,by simp⟩
  | cons y l ih=>
   have hy:=dI n y
   simp only[List.map_cons,List.sum_cons,List.flatMap_cons,List.length_append]
   exact⟨by omega,by omega⟩
 have k:=key (p.take k)
 unfold nU
 exact⟨by omega,by omega⟩
def QW (n:Nat):Prop:=∀(x:Tm n) (B:Nat) (w:World),In B w n x->B<=w.heap.size->(nodes n x).length<=2097152->
 Calls Tryz.prog 67 #[val n x] w fun e w'=>e=.returned (.int .i64 (sz n x))/\Below w.heap.size w w'
theorem Ee (k0 u0:Int) (s:ByteArray) (a:Option Addr) (len pc:Nat) (w:World) (h:¬k0=4):
    Calls Tryz.prog 67 #[.agg #[.int .i64 k0,.int .i64 u0,.string s,.slice a len pc]] w fun e w'=>e=.returned (.int .i64 0)/\Below w.heap.size w w':=by
 have h4:(k0 !=4)=true:=by simpa using h
 clear h
 go_enter Tryz.func67,Tryz.ntmps67
 go_wp2_with fail
 go_ret
 exact⟨rfl,(Below.refl _ _).alloc (Nat.le_refl _) _⟩
theorem Jm (n:Nat) (ih:QW n) (u0:Int) (s:ByteArray) (a:Option Addr) (pc len:Nat) (p:List (Tm n)) (hpl:Hid (p.length=len)) (B:Nat) (w:World)
    (hp:Hid (p=[]∨∃b o,a=some ⟨b,o,none⟩/\b<B/\∀(i:Nat) (y:Tm n),p[i]? =some y->Held w b (o+i*4) n y/\In B w n y))
    (hB:B<=w.heap.size) (hsum:Hid (1+(p.flatMap fun y=>nodes n y).length<=2097152)):
    Calls Tryz.prog 67 #[.agg #[.int .i64 4,.int .i64 u0,.string s,.slice a len pc]] w fun e w'=>
     e=.returned (.int .i64 (1+(p.map fun y=>1+sz n y).sum))/\Below w.heap.size w w':=by
 have hlen:len<=2097152:=by have h1:=xX n p;have h2:=hsum.out;rw[<-hpl.out];omega
 go_enter Tryz.func67,Tryz.ntmps67
 go_wp2_with fail
 go_loopw [3,16] (fun t i wr=>∃k:Nat,∃r:Int,k<=len/\i=.int .i64 k/\t=.int .i64 r/\Hid (r=nU n p k)/\Below w.heap.size w wr) (fun _ i _=>len-(intOf i).toNat)
 case atStart=>exact⟨0,1+len,by omega,rfl,rfl,by simp only[Hid,nU];rw[hpl.out];simp,(Below.refl _ _).alloc (Nat.le_refl _) _⟩
 case round=>
  obtain⟨k,r,hk,rfl,rfl,hr,hb⟩:=hrel
  have e1:=BJ n p k
  rw[<-hr.out]at e1
  have e5:=hsum.out
  have r1:0<=r:=e1.1
  have r2:r<=6291456:=by omega
  clear e1
  by_cases hlt:k<len
  ·obtain⟨x,hx⟩:∃x,p[k]? =some x:=⟨p[k]'(by rw[hpl.out];exact hlt),List.getElem?_eq_getElem _⟩
   have HS:=hide (EP n p k x hx)
   have e3:=je p x (List.mem_of_getElem? hx)
   have hx9:(nodes n x).length<=2097152:=by omega
   have e2:=dI n x
   have z1:0<=sz n x:=e2.1
   have z2:sz n x<=4194304:=by omega
   clear e3 e5 e2
   rcases hp.out with hp|⟨pb,po,rfl,hpb,hp⟩
   ·subst hp;simp at hx
   obtain⟨hx1,hx2⟩:=hp k x hx
   replace hx1:=hx1.below (hb.mono hB) hpb
   replace hx2:=hx2.below (hb.mono hB)
   clear hp hx
   cases n with
   | zero=>exact hx1.elim
   | succ n=>
   obtain⟨x0,x1,x2,x3⟩:=hx1
   have hB':B<=wr.heap.size:=Nat.le_trans hB hb.size
   have HC:Hid (∀w1,Below wr.heap.size wr w1->Calls Tryz.prog 67 #[.agg #[.int .i64 x.1.1,.int .i64 x.1.2.1,.string x.1.2.2,.slice x.2.1.1 x.2.2.length x.2.1.2]] w1 fun e w'=>e=.returned (.int .i64 (sz (n+1) x))/\Below w1.heap.size w1 w'):=
    fun w1 h1=>ih x B w1 (hx2.below (h1.mono hB')) (Nat.le_trans hB' h1.size) hx9
   clear ih hx2 hx9
   generalize x.2.2.length=xl at*
   generalize sz (n+1) x=z at*
   have hk1:(0:Int)<=(k:Int):=by omega
   have hk2:(k:Int)<(len:Int):=by omega
   go_wp2_with fail
   refine(HC.out _ ((Below.refl _ _).alloc (Nat.le_refl _) _)).mono ?_
   rintro e w1 ⟨rfl,hb1⟩
   have hb2:Below w.heap.size w w1:=(hb.trans (((Below.refl _ _).alloc (Nat.le_refl _) _).mono hb.size)).trans (hb1.mono (by have:=hb.size;simp;omega))
   clear hb1
   go_wp2_with fail
   go_roundw
   case rel=>exact⟨k+1,r+z,by omega,by go_num,by go_num,by simp only[Hid];rw[HS.out,<-hr.out],hb2⟩
   case measure=>simp[intOf];omega
  ·go_wp2_with fail
   go_ret
   refine⟨gY ?_,hb⟩
   rw[hr.out,IL n p k (by rw[hpl.out];omega)]
theorem xz (n:Nat):QW n:=by
 induction n with
 | zero=>intro x B w hx;exact hx.elim
 | succ n ih=>
  intro x B w hx hB hsum
  obtain⟨⟨k,u,s⟩,⟨a,pc⟩,p⟩:=x
  obtain⟨⟨_,_,_,hpl,hpc⟩,hp⟩:=hx
  simp only at hpl hpc hp
  have hL:(nodes (n+1) ((k,u,s),(a,pc),p)).length=1+(p.flatMap fun y=>nodes n y).length:=by simp only[nodes,List.length_cons];omega
  rw[hL]at hsum
  show Calls Tryz.prog 67 #[.agg #[.int .i64 k,.int .i64 u,.string s,.slice a p.length pc]] w fun e w'=>e=.returned (.int .i64 (if k=4 then 1+(p.map fun y=>1+sz n y).sum else 0))/\Below w.heap.size w w'
  by_cases h4:k=4
  ·subst h4
   exact Jm n ih u s a pc p.length p rfl B w hp hB hsum
  ·rw[if_neg h4]
   exact Ee k u s a p.length pc w h4
theorem CU (w:World) (k u:Int) (s:ByteArray) (a:Option Addr) (l c:Nat) (fb:Bool) (d z:Int)
    (HF:Hid (∀w1,Below w.heap.size w w1->Calls Tryz.prog 65 #[.agg #[.int .i64 k,.int .i64 u,.string s,.slice a l c]] w1 fun e w'=>e=.returned (.bool fb)/\Below w1.heap.size w1 w'))
    (HD:Hid (∀w1,Below w.heap.size w w1->Calls Tryz.prog 66 #[.agg #[.int .i64 k,.int .i64 u,.string s,.slice a l c]] w1 fun e w'=>e=.returned (.int .i64 d)/\Below w1.heap.size w1 w'))
    (HZ:Hid (∀w1,Below w.heap.size w w1->Calls Tryz.prog 67 #[.agg #[.int .i64 k,.int .i64 u,.string s,.slice a l c]] w1 fun e w'=>e=.returned (.int .i64 z)/\Below w1.heap.size w1 w')):
    Calls Tryz.prog 42 #[.agg #[.int .i64 k,.int .i64 u,.string s,.slice a l c]] w fun e w'=>e=.returned (.int .i64 (if fb then if 12<d∨200<z then 2 else 0 else 5))/\Below w.heap.size w w':=by
 generalize hr:(if fb then if 12<d∨200<z then (2:Int)else 0 else 5)=r
 have HR:=hide hr
 clear hr
 go_enter Tryz.func42,Tryz.ntmps42
 go_wp2_with fail
 refine(HF.out _ ((Below.refl _ _).alloc (Nat.le_refl _) _)).mono ?_
 rintro e w1 ⟨rfl,hb1⟩
 have HB1:Hid (Below w.heap.size w w1/\w.heap.size+1<=w1.heap.size):=⟨((Below.refl _ _).alloc (Nat.le_refl _) _).trans (hb1.mono (by simp)),by have:=hb1.size;simpa using this⟩
 have hcc:=af hb1
 simp only[World.size_alloc]at hcc
 have a0:=(hcc w.heap.size 0 (by omega)).trans (by simp[go_sem]:_=some (Value.int .i64 k))
 have a1:=(hcc w.heap.size 1 (by omega)).trans (by simp[go_sem]:_=some (Value.int .i64 u))
 have a2:=(hcc w.heap.size 2 (by omega)).trans (by simp[go_sem]:_=some (Value.string s))
 have a3:=(hcc w.heap.size 3 (by omega)).trans (by simp[go_sem]:_=some (Value.slice a l c))
 clear hcc hb1
 cases fb with
 | false=>
  go_wp2_with fail
  go_ret
  exact⟨gY (by rw[<-HR.out];rfl),HB1.out.1⟩
 | true=>
  go_wp2_with fail
  refine(HD.out _ HB1.out.1).mono ?_
  rintro e w2 ⟨rfl,hb2⟩
  have HB2:Hid (Below w.heap.size w w2):=HB1.out.1.trans (hb2.mono HB1.out.1.size)
  have hcc:=af hb2
  have hz1:=HB1.out.2
  replace a0:=(hcc w.heap.size 0 (by omega)).trans a0
  replace a1:=(hcc w.heap.size 1 (by omega)).trans a1
  replace a2:=(hcc w.heap.size 2 (by omega)).trans a2
  replace a3:=(hcc w.heap.size 3 (by omega)).trans a3
  clear hcc hb2 hz1
  by_cases h12:12<d
  ·have H12:=hide h12
   go_wp2_with fail
   go_ret
   exact⟨gY (by rw[<-HR.out,if_pos trivial,if_pos (Or.inl H12.out)]),HB2.out⟩
  ·have H12:=hide h12
   go_wp2_with fail
   refine(HZ.out _ HB2.out).mono ?_
   rintro e w3 ⟨rfl,hb3⟩
   have HB3:Hid (Below w.heap.size w w3):=HB2.out.trans (hb3.mono HB2.out.size)
   clear hb3
   by_cases hz:200<z
   ·have HZ2:=hide hz
    go_wp2_with fail
    go_ret
    exact⟨gY (by rw[<-HR.out,if_pos trivial,if_pos (Or.inr HZ2.out)]),HB3.out⟩
   ·have HZ2:=hide hz
    go_wp2_with fail
    go_ret
    exact⟨gY (by rw[<-HR.out,if_pos trivial,if_neg (by have:=H12.out;have:=HZ2.out;omega)]),HB3.out⟩
def zS (n:Nat) (x:Tm n):Int:=if aY n x then if 12<dU n x∨200<sz n x then 2 else 0 else 5
theorem Bw (n:Nat) (x:Tm n) (B:Nat) (w:World) (hx:In B w n x) (hB:B<=w.heap.size) (hN:(nodes n x).length<=2097152):
    Calls Tryz.prog 42 #[val n x] w fun e w'=>e=.returned (.int .i64 (zS n x))/\Below w.heap.size w w':=by
 cases n with
 | zero=>exact hx.elim
 | succ n=>
 exact CU w x.1.1 x.1.2.1 x.1.2.2 x.2.1.1 x.2.2.length x.2.1.2 (aY (n+1) x) (dU (n+1) x) (sz (n+1) x)
  (fun w1 hw=>EO (n+1) x B w1 (hx.below (hw.mono hB)) (Nat.le_trans hB hw.size))
  (fun w1 hw=>Jp (n+1) x B w1 (hx.below (hw.mono hB)) (Nat.le_trans hB hw.size) hN)
  (fun w1 hw=>xz (n+1) x B w1 (hx.below (hw.mono hB)) (Nat.le_trans hB hw.size) hN)
theorem jY:(n:Nat)->(x:Tm n)->aY n x=(nodes n x).all good
 | 0,_=>by simp[aY,nodes,good]
 | n+1,x=>by
  have e:(nodes (n+1) x).all good=(good (aL n x) && (x.2.2.flatMap fun y=>nodes n y).all good):=rfl
  rw[e]
  simp only[aY]
  cases hg:good (aL n x)
  ·rfl
  ·rw[Bool.true_and,Bool.true_and]
   by_cases h4:x.1.1=4
   ·rw[h4]
    have key:∀l:List (Tm n),(l.all fun y=>aY n y)=(l.flatMap fun y=>nodes n y).all good:=by
     intro l
     induction l with
     | nil=>rfl
     | cons y l ih=>simp only[List.all_cons,List.flatMap_cons,List.all_append,ih,jY n y]
    rw[key]
    simp
   ·have hl:x.2.2=[]:=by
      unfold good at hg
      simp only[Bool.and_eq_true,Bool.or_eq_true,beq_iff_eq]at hg
      rcases hg.2 with h|h
      ·exact(h4 h).elim
      ·have:¬(0:Int)<(x.2.2.length:Int):=by simpa [aL]using h
       exact List.eq_nil_of_length_eq_zero (by omega)
    rw[hl]
    simp
def lJ:List Nd->List Int->Int->Int
 | x::l,d::ds,m=>lJ l ds (deeper x d m)
 | _,_,m=>m
theorem CG (z:Int):(l:List Nd)->(ds:List Int)->(m:Int)->l.length=ds.length->AZ z l ds m=if l.all good then (if 12<lJ l ds m∨200<z then 2 else 0)else 5
 | [],_,_,_=>rfl
 | x::l,[],_,h=>by simp at h
 | x::l,d::ds,m,h=>by
  have ih:=CG z l ds (deeper x d m) (by simpa using h)
  simp only[AZ,lJ]
  by_cases hg:good x=true
  ·have e:(x::l).all good=l.all good:=by simp[hg]
   rw[if_pos hg,ih]
   by_cases ha:l.all good=true
   ·rw[if_pos ha,if_pos (e.trans ha)];rfl
   ·rw[if_neg ha,if_neg (fun h=>ha (e.symm.trans h))]
  ·rw[if_neg hg,if_neg (fun h=>hg (List.all_eq_true.1 h x (by simp)))]
theorem pK:(l r:List Nd)->(ds es:List Int)->(m:Int)->l.length=ds.length->lJ (l++r) (ds++es) m=lJ r es (lJ l ds m)
 | [],_,[],_,_,_=>rfl
 | [],_,_::_,_,_,h=>by simp at h
 | _::_,_,[],_,_,h=>by simp at h
 | x::l,r,d::ds,es,m,h=>by
  simp only[List.cons_append,lJ]
  exact pK l r ds es _ (by simpa using h)
theorem Db {n:Nat} (c:Int):(p:List (Tm n))->(m e:Int)->p.foldl (fun m y=>max m (c+dU n y)) (max m (c+e))=max m (c+p.foldl (fun m y=>max m (dU n y)) e)
 | [],_,_=>rfl
 | y::p,m,e=>by
  simp only[List.foldl_cons]
  have h:max (max m (c+e)) (c+dU n y)=max m (c+max e (dU n y)):=by omega
  rw[h]
  exact Db c p m (max e (dU n y))
theorem Dj:(n:Nat)->(x:Tm n)->(d m:Int)->(∀a∈nodes n x,good a=true)->d<=m->lJ (nodes n x) (mF n x d) m=max m (d+dU n x)
 | 0,x,_,_,h,_=>by
  have:=h ((0,0,.empty),(none,0,0)) (by simp[nodes])
  rcases jr _ this with g|g|g|g|g|⟨g,_⟩<;>simp at g
 | n+1,x,d,m,h,hm=>by
  have hg:=h (aL n x) (by simp[nodes,aL])
  have key:∀(p:List (Tm n)) (m:Int),(∀y∈p,y∈x.2.2)->d+1<=m->lJ (p.flatMap fun y=>nodes n y) (p.flatMap fun y=>mF n y (d+1)) m=p.foldl (fun m y=>max m (d+1+dU n y)) m:=by
   intro p
   induction p with
   | nil=>intro m _ _;rfl
   | cons y p ih=>
    intro m hp hm
    simp only[List.flatMap_cons,List.foldl_cons]
    rw[pK _ _ _ _ _ (jc n y (d+1)).symm,Dj n y (d+1) m (fun a ha=>h a (mV (hp y (by simp)) ha)) hm]
    exact ih _ (fun z hz=>hp z (by simp[hz])) (by omega)
  have e:lJ (nodes (n+1) x) (mF (n+1) x d) m=lJ (x.2.2.flatMap fun y=>nodes n y) (x.2.2.flatMap fun y=>mF n y (d+1)) (deeper (aL n x) d m):=rfl
  rw[e]
  simp only[dU]
  by_cases h4:x.1.1=4
  ·rw[if_pos h4]
   have e1:deeper (aL n x) d m=max m (d+1+0):=by
    unfold deeper aL
    by_cases hlt:m<d+1
    ·rw[if_pos ⟨h4,hlt⟩];omega
    ·rw[if_neg (fun hh=>hlt hh.2)];omega
   rw[e1,key x.2.2 _ (fun _ hy=>hy) (by omega),Db]
   omega
  ·rw[if_neg h4]
   have hl:x.2.2=[]:=by
    unfold good at hg
    simp only[Bool.and_eq_true,Bool.or_eq_true,beq_iff_eq]at hg
    rcases hg.2 with h'|h'
    ·exact(h4 h').elim
    ·have:¬(0:Int)<(x.2.2.length:Int):=by simpa [aL]using h'
     exact List.eq_nil_of_length_eq_zero (by omega)
   have e1:deeper (aL n x) d m=m:=Iq _ (fun hh=>h4 hh.1)
   rw[hl,e1]
   simp only[List.flatMap_nil,lJ]
   omega
theorem ik (n:Nat) (x:Tm n):zS n x=aQ n x:=by
 unfold zS aQ
 rw[CG _ _ _ _ (jc n x 0).symm,<-jY n x]
 by_cases hf:aY n x=true
 ·rw[if_pos hf,if_pos hf]
  have hg:∀a∈nodes n x,good a=true:=by
   rw[jY n x]at hf
   exact fun a ha=>List.all_eq_true.1 hf a ha
  have hd:=eO n x
  rw[Dj n x 0 0 hg (by omega)]
  have:max (0:Int) (0+dU n x)=dU n x:=by omega
  rw[this]
 ·rw[if_neg hf,if_neg hf]
theorem dh (n:Nat) (x:Tm n) (B:Nat) (w:World) (hx:In B w n x) (hB:B<=w.heap.size) (hN:(nodes n x).length<=2097152):
    Calls Tryz.prog 42 #[val n x] w fun e w'=>e=.returned (.int .i64 (aQ n x))/\Below w.heap.size w w':=by
 rw[<-ik]
 exact Bw n x B w hx hB hN
end Go.Proofs.YtmbjgiaebneodaaGreat
