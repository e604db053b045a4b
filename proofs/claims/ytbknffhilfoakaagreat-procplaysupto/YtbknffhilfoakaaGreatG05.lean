/- What is proved here: plain facts and contracts that the claimed theorem stands on. No condition but those that each names. -/
import Derived.Test.YtbknffhilfoakaaGreatG04
import Derived.Deep.RegionHeld3
import Derived.Deep.DrawnRows
namespace Go.Proofs.YtbknffhilfoakaaGreat
open Go.RowKit
set_option maxHeartbeats 1000000
def Off (P:Nat->Prop):(n:Nat)->Tm n->Prop
 | 0,_=>False
 | n+1,x=>x.2.2=[]∨∃b o,x.2.1.1=some ⟨b,o,none⟩/\P b/\∀(i:Nat) (y:Tm n),x.2.2[i]? =some y->Off P n y
theorem Off.mono {P Q:Nat->Prop} (h:∀b,P b->Q b):{n:Nat}->{x:Tm n}->Off P n x->Off Q n x
 | 0,_,k=>k
 | _+1,_,k=>by
  rcases k with k|⟨b,o,e,hb,k⟩
  ·exact Or.inl k
  ·exact Or.inr ⟨b,o,e,h b hb,fun i y hy=>(k i y hy).mono h⟩
theorem aK {w w':World} {b:Nat} (h:w'.heap[b]? =w.heap[b]?) (o:Nat):w'.cell? ⟨b,o,none⟩=w.cell? ⟨b,o,none⟩:=by
 simp[World.cell?,h]
theorem Held.block {w w':World} {b o:Nat} (h:w'.heap[b]? =w.heap[b]?):{n:Nat}->{x:Tm n}->Held w b o n x->Held w' b o n x
 | 0,_,k=>k
 | _+1,_,k=>by
  obtain⟨k0,k1,k2,k3⟩:=k
  exact⟨(aK h _).trans k0,(aK h _).trans k1,(aK h _).trans k2,(aK h _).trans k3⟩
theorem In.off {P:Nat->Prop} {w w':World} (h:∀b,P b->w'.heap[b]? =w.heap[b]?) {B:Nat}:{n:Nat}->{x:Tm n}->Off P n x->In B w n x->In B w' n x
 | 0,_,_,k=>k
 | _+1,_,p,k=>by
  obtain⟨k0,k1⟩:=k
  refine⟨k0, ?_⟩
  rcases k1 with k1|⟨b,o,e,hb,k1⟩
  ·exact Or.inl k1
  ·rcases p with p|⟨b',o',e',hb',p⟩
   ·exact Or.inl p
   ·rw[e]at e'
    injection e' with e'
    injection e' with e1 e2
    subst e1 e2
    exact Or.inr ⟨b,o,e,hb,fun i y hy=>⟨(k1 i y hy).1.block (h b hb'),(k1 i y hy).2.off h (p i y hy)⟩⟩
theorem In.offB {P:Nat->Prop} {B:Nat} {w:World}:{n:Nat}->{x:Tm n}->Off P n x->In B w n x->Off (fun b=>P b/\b<B) n x
 | 0,_,p,_=>p
 | _+1,_,p,k=>by
  obtain⟨_,k1⟩:=k
  rcases p with p|⟨b,o,e,hb,p⟩
  ·exact Or.inl p
  ·rcases k1 with k1|⟨b',o',e',hb',k1⟩
   ·exact Or.inl k1
   ·rw[e]at e'
    injection e' with e'
    injection e' with e1 e2
    subst e1 e2
    exact Or.inr ⟨b,o,e,⟨hb,hb'⟩,fun i y hy=>In.offB (p i y hy) (k1 i y hy).2⟩
def dF:(n:Nat)->Tm n->Nd
 | 0,_=>((0,0,⟨#[]⟩),(none,0,0))
 | n+1,x=>aO n x
theorem Ck {w:World} {base g c L:Nat} {n:Nat} {l:List (Tm (n+1))} (h:w.ownsRow base 25 4 (.slice (some ⟨g,0,none⟩) L c) L (aD (l.map (dF (n+1))))) (k:Nat) (x:Tm (n+1)) (hx:l[k]? =some x):
    Held w g (0+k*4) (n+1) x:=by
 have h1:=oC h k (dF (n+1) x) (by simp[hx])
 rw[Nat.zero_add]
 exact h1
def iW (a:An):Nd:=dF a.1 a.2
def cK (l:List An):List Value:=aD (l.map iW)
theorem fI (l:List An):(cK l).length=l.length*4:=by simp[cK,fK]
theorem qh (l:List An):∀u∈cK l,u.oneCell'=true:=il _
def Has (base:Nat) (g c:Nat) (b:List An) (w:World):Prop:=w.ownsRow base 25 4 (.slice (some ⟨g,0,none⟩) b.length c) b.length (cK b)
theorem Has.cells {base g c:Nat} {b:List An} {w:World} (h:Has base g c b w) (i:Nat) (y:An) (hy:b[i]? =some y):
    w.cell? ⟨g,i*4,none⟩=some (.int .i64 (iW y).1.1)/\w.cell? ⟨g,i*4+1,none⟩=some (.int .i64 (iW y).1.2.1)/\w.cell? ⟨g,i*4+2,none⟩=some (.string (iW y).1.2.2)/\w.cell? ⟨g,i*4+3,none⟩=some (.slice (iW y).2.1 (iW y).2.2.1 (iW y).2.2.2):=
 oC (l:=b.map iW) h i (iW y) (by simp[hy])
theorem Has.lt {base g c:Nat} {b:List An} {w:World} (h:Has base g c b w):base<=g/\g<w.heap.size:=World.ownsRow.lt h g rfl
theorem Has.kept {base g c:Nat} {b:List An} {w w':World} (h:Has base g c b w) {row:Option Nat} (hg:w.grownBy w' row) (hne:row≠some g):Has base g c b w':=
 World.ownsRow.kept h hg (Or.inr fun e=>hne e.symm)
theorem aZ {w w':World} (h:Below w.heap.size w w') (row:Option Nat):w.grownBy w' row:=⟨h.os,h.tape,h.output,h.size,fun k hk _=>h.block k hk⟩
theorem Has.below {base g c:Nat} {b:List An} {w w':World} (h:Has base g c b w) (hb:Below w.heap.size w w'):Has base g c b w':=h.kept (aZ hb none) (by simp)
theorem iy {w w':World} {g B:Nat} (h:w.grownBy w' (some g)) (hB:B<=g) (hg:g<w.heap.size):Below B w w':=⟨h.os,h.tape,h.output,h.size,fun k hk=>h.block k (by omega) (by simp;omega)⟩
theorem jw {w w1 w2:World} {row:Option Nat} (h:w.grownBy w1 row) (k:w1.grownBy w2 row):w.grownBy w2 row:=
 ⟨k.os.trans h.os,k.tape.trans h.tape,k.output.trans h.output,Nat.le_trans h.size k.size,fun b hb hne=>(k.block b (Nat.lt_of_lt_of_le hb h.size) hne).trans (h.block b hb hne)⟩
theorem Has.free {base g c:Nat} {b:List An} {w:World} (h:Has base g c b w) (j:Nat):w.frozen? ⟨g,j,none⟩=false:=by
 obtain⟨h1,h2⟩:=h
 rcases h2 with⟨h2,_⟩|⟨g',cap,cur,hv,hg,hh,hc,hm,hz,he⟩
 ·simp at h2
 ·injection hv with e1 e2 e3
  injection e1 with e1
  injection e1 with e1 _
  subst e1
  simp[World.frozen?,hh]
def bG (w:World) (g o:Nat) (v0 v1 v2 v3:Value):World:=(((w.setCell ⟨g,o,none⟩ v0).setCell ⟨g,o+1,none⟩ v1).setCell ⟨g,o+2,none⟩ v2).setCell ⟨g,o+3,none⟩ v3
def fF (w:World) (g o:Nat) (x:Nd):World:=bG w g o (.int .i64 x.1.1) (.int .i64 x.1.2.1) (.string x.1.2.2) (.slice x.2.1 x.2.2.1 x.2.2.2)
theorem ik {w:World} {base e size g L c:Nat} {xs:List Value} (h:w.ownsRow base e size (.slice (some ⟨g,0,none⟩) L c) L xs) (j:Nat) (u:Value):
    (w.setCell ⟨g,j,none⟩ u).ownsRow base e size (.slice (some ⟨g,0,none⟩) L c) L (xs.set j u):=by
 obtain⟨h1,h2⟩:=h
 refine⟨by simpa using h1, ?_⟩
 rcases h2 with⟨h2,_⟩|⟨g',cap,cur,hv,hg,hh,hc,hm,hz,he⟩
 ·simp at h2
 ·injection hv with e1 e2 e3
  injection e1 with e1
  injection e1 with e1 _
  subst e1 e3
  refine Or.inr ⟨g,c,cur.setIfInBounds j u,rfl,hg, ?_,hc,hm,by simpa using hz, ?_⟩
  ·simp[World.setCell,Array.getElem?_modify,hh]
  ·rw[<-he]
   simp[List.take_set]
theorem pV:(l:List Nd)->(i:Nat)->(x:Nd)->i<l.length->
    ((((aD l).set (i*4) (.int .i64 x.1.1)).set (i*4+1) (.int .i64 x.1.2.1)).set (i*4+2) (.string x.1.2.2)).set (i*4+3) (.slice x.2.1 x.2.2.1 x.2.2.2)=aD (l.set i x)
 | [],i,x,h=>by simp at h
 | y::l,0,x,_=>by simp[aD,kG]
 | y::l,i+1,x,h=>by
  have ih:=pV l i x (by simpa using h)
  have e:aD (y::l)=kG y++aD l:=rfl
  have e':aD ((y::l).set (i+1) x)=kG y++aD (l.set i x):=rfl
  have hy:(kG y).length=4:=rfl
  rw[e,e',<-ih]
  rw[List.set_append_right _ _ (by rw[hy];omega),List.set_append_right _ _ (by rw[hy];omega),List.set_append_right _ _ (by rw[hy];omega),List.set_append_right _ _ (by rw[hy];omega),hy]
  rw[show (i+1)*4-4=i*4 by omega,show (i+1)*4+1-4=i*4+1 by omega,show (i+1)*4+2-4=i*4+2 by omega,show (i+1)*4+3-4=i*4+3 by omega]
theorem Has.put {base g c:Nat} {b:List An} {w:World} (h:Has base g c b w) (i:Nat) (t:An) (hi:i<b.length):Has base g c (b.set i t) (fF w g (i*4) (iW t)):=by
 have h4:=ik (ik (ik (ik h (i*4) (.int .i64 (iW t).1.1)) (i*4+1) (.int .i64 (iW t).1.2.1)) (i*4+2) (.string (iW t).1.2.2)) (i*4+3) (.slice (iW t).2.1 (iW t).2.2.1 (iW t).2.2.2)
 unfold cK at h4
 rw[pV (b.map iW) i (iW t) (by simpa using hi)]at h4
 unfold Has cK
 rw[List.map_set,List.length_set]
 exact h4
theorem au {w:World} {g b o:Nat} (h:b≠g) (v0 v1 v2 v3:Value):(bG w g o v0 v1 v2 v3).heap[b]? =w.heap[b]? :=by
 have hne:g≠b:=fun e=>h e.symm
 simp[bG,World.setCell,Array.getElem?_modify,hne]
theorem aF {w:World} {g o:Nat} (v0 v1 v2 v3:Value):(bG w g o v0 v1 v2 v3).heap.size=w.heap.size:=by simp[bG,World.setCell]
theorem sP {w:World} {g o:Nat} (v0 v1 v2 v3:Value):w.grownBy (bG w g o v0 v1 v2 v3) (some g):=
 ⟨rfl,rfl,rfl,Nat.le_of_eq (aF _ _ _ _).symm,fun k _ hne=>au (fun e=>hne (by rw[e])) _ _ _ _⟩
theorem boxed {w w':World} {v0 v1 v2 v3:Value} {t:TypeId} (hb:Below (w.alloc (.cells #[v0,v1,v2,v3] t)).heap.size (w.alloc (.cells #[v0,v1,v2,v3] t)) w'):
    (w'.cell? ⟨w.heap.size,0,none⟩=some v0/\w'.cell? ⟨w.heap.size,1,none⟩=some v1/\w'.cell? ⟨w.heap.size,2,none⟩=some v2/\w'.cell? ⟨w.heap.size,3,none⟩=some v3)/\
    (w'.frozen? ⟨w.heap.size,0,none⟩=false/\w'.frozen? ⟨w.heap.size,1,none⟩=false/\w'.frozen? ⟨w.heap.size,2,none⟩=false/\w'.frozen? ⟨w.heap.size,3,none⟩=false):=by
 have hc:=fun o=>hb.cell (p:=⟨w.heap.size,o,none⟩) (by simp)
 have hf:=fun o=>hb.frozen (p:=⟨w.heap.size,o,none⟩) (by simp)
 exact⟨⟨(hc 0).trans (by simp[go_sem]),(hc 1).trans (by simp[go_sem]),(hc 2).trans (by simp[go_sem]),(hc 3).trans (by simp[go_sem])⟩,(hf 0).trans (by simp[go_sem]),(hf 1).trans (by simp[go_sem]),(hf 2).trans (by simp[go_sem]),(hf 3).trans (by simp[go_sem])⟩
theorem kK {w1 w2:World} {q:Nat} {u0 u1 u2 u3:Value} (hq:q<w1.heap.size) (h:Below w1.heap.size w1 w2)
    (k:w1.cell? ⟨q,0,none⟩=some u0/\w1.cell? ⟨q,1,none⟩=some u1/\w1.cell? ⟨q,2,none⟩=some u2/\w1.cell? ⟨q,3,none⟩=some u3):
    w2.cell? ⟨q,0,none⟩=some u0/\w2.cell? ⟨q,1,none⟩=some u1/\w2.cell? ⟨q,2,none⟩=some u2/\w2.cell? ⟨q,3,none⟩=some u3:=by
 obtain⟨b0,b1,b2,b3⟩:=k
 have hcc:=ag h
 exact⟨(hcc _ _ hq).trans b0,(hcc _ _ hq).trans b1,(hcc _ _ hq).trans b2,(hcc _ _ hq).trans b3⟩
def FitPost (base g c:Nat) (o:Option (List An)) (w:World) (e:Ending) (w':World):Prop:=
 e=.returned (.bool o.isSome)/\w.grownBy w' (some g)/\∀b,o=some b->Has base g c b w'
def Bnd (B:Nat) (w:World) (b:List An):Prop:=b.length=4/\∀y∈b,InA B w y/\ak y
theorem InA.below {B:Nat} {w w':World} (h:Below B w w') {x:An} (k:InA B w x):InA B w' x:=In.below h k
theorem Bnd.below {B:Nat} {w w':World} (h:Below B w w') {b:List An} (k:Bnd B w b):Bnd B w' b:=⟨k.1,fun y hy=>⟨(k.2 y hy).1.below h,(k.2 y hy).2⟩⟩
theorem Bnd.fit {B:Nat} {w:World} {b b':List An} (k:Bnd B w b) {n m:Nat} {p:Tm n} {t:Tm m} (ht:In B w m t) (hr:ak ⟨m,t⟩) (h:fit n p m t b=some b'):Bnd B w b':=
 iX (fun x=>InA B w x/\ak x) (ou (ru B w) aH) n p m t ⟨ht,hr⟩ b b' k h
def Jv (n:Nat):Prop:=∀(p:Tm n) (m:Nat) (t:Tm m) (b:List An) (base g c B:Nat) (w:World),In B w n p->In B w m t->ak ⟨n,p⟩->ak ⟨m,t⟩->Bnd B w b->B<=base->Has base g c b w->
 Calls Tryz.prog 94 #[.slice (some ⟨g,0,none⟩) 4 c,val n p,val m t] w (FitPost base g c (fit n p m t b) w)
theorem tK (x y:Int) (w:World):
    Calls Tryz.prog 115 #[.int .i64 x,.int .i64 y] w fun e w'=>e=.returned (.int .i64 (lg x y))/\w'=w:=by
 go_enter Tryz.func115,Tryz.ntmps115
 go_wp2
 all_goals go_ret
 all_goals refine⟨bA ?_,rfl⟩
 all_goals unfold lg
 all_goals (repeat' split)<;>omega
theorem Gw (x y:ByteArray) (w:World):
    Calls Tryz.prog 116 #[.string x,.string y] w fun e w'=>e=.returned (.int .i64 (tV x y))/\w'=w:=by
 go_enter Tryz.func116,Tryz.ntmps116
 go_wp2
 all_goals go_ret
 all_goals refine⟨bA ?_,rfl⟩
 all_goals unfold tV
 all_goals simp[*]
attribute [local go_sem ↓] Go.wp_at_zero Go.wp_at_succ
def F5 (n:Nat):Prop:=∀(x:Tm n) (m:Nat) (y:Tm m) (B:Nat) (w:World),In B w n x->In B w m y->B<=w.heap.size->
 Calls Tryz.prog 110 #[val n x,val m y] w fun e w'=>e=.returned (.int .i64 (ve n x m y))/\Below w.heap.size w w'
theorem Hy (p q:Nat) (a c:Option Addr) (pc qc:Nat) (w:World) (_hpc:p<=9223372036854775807) (_hqc:q<=9223372036854775807) (hl:((p:Int)==(q:Int))=false):
    Calls Tryz.prog 117 #[.slice a p pc,.slice c q qc] w fun e w'=>e=.returned (.int .i64 (lg p q))/\w'=w:=by
 have hl':((p:Int) !=(q:Int))=true:=by simpa using hl
 go_enter Tryz.func117,Tryz.ntmps117
 go_wp2_with (go_at_call 115;refine(tK _ _ _).mono ?_;rintro e w' ⟨rfl,rfl⟩)
 go_ret
 exact⟨rfl,rfl⟩
theorem Hz (n m:Nat) (ih:F5 n) (p:List (Tm n)) (q:List (Tm m)) (len:Nat) (hpl:Hid (p.length=len)) (hql:Hid (q.length=len)) (pb po qb qo pc qc:Nat) (B:Nat) (w:World)
    (hlen:len<=9223372036854775807) (hpb:pb<B) (hqb:qb<B)
    (hp:∀(i:Nat) (y:Tm n),p[i]? =some y->Held w pb (po+i*4) n y/\In B w n y)
    (hq:∀(i:Nat) (y:Tm m),q[i]? =some y->Held w qb (qo+i*4) m y/\In B w m y)
    (hB:B<=w.heap.size):
    Calls Tryz.prog 117 #[.slice (some ⟨pb,po,none⟩) len pc,.slice (some ⟨qb,qo,none⟩) len qc] w fun e w'=>
     e=.returned (.int .i64 (lY (fun a b=>ve n a m b) p q))/\Below w.heap.size w w':=by
 go_enter Tryz.func117,Tryz.ntmps117
 go_wp2_with fail
 go_loopw [19] (fun i wr=>∃k:Nat,k<=len/\i=.int .i64 k/\Below w.heap.size w wr/\Hid (lY (fun a b=>ve n a m b) (p.drop k) (q.drop k)=lY (fun a b=>ve n a m b) p q)) (fun i _=>len-(intOf i).toNat)
 case atStart=>exact⟨0,by omega,rfl,Below.refl _ _,rfl⟩
 case round=>
  obtain⟨k,hk,rfl,hb,hd⟩:=hrel
  by_cases hlt:k<len
  ·obtain⟨x,hx⟩:∃x,p[k]? =some x:=⟨p[k]'(by rw[hpl.out];exact hlt),List.getElem?_eq_getElem _⟩
   obtain⟨y,hy⟩:∃y,q[k]? =some y:=⟨q[k]'(by rw[hql.out];exact hlt),List.getElem?_eq_getElem _⟩
   obtain⟨hx1,hx2⟩:=hp k x hx
   obtain⟨hy1,hy2⟩:=hq k y hy
   have HS:Hid (lY (fun a b=>ve n a m b) (p.drop k) (q.drop k)=if ve n x m y=0 then lY (fun a b=>ve n a m b) (p.drop (k+1)) (q.drop (k+1))else ve n x m y):=DX (fun a b=>ve n a m b) p q k x y hx hy
   replace hx1:=hx1.below (hb.mono hB) hpb
   replace hy1:=hy1.below (hb.mono hB) hqb
   replace hx2:=hx2.below (hb.mono hB)
   replace hy2:=hy2.below (hb.mono hB)
   clear hp hq hx hy
   cases n with
   | zero=>exact hx1.elim
   | succ n=>
   cases m with
   | zero=>exact hy1.elim
   | succ m=>
   obtain⟨x0,x1,x2,x3⟩:=hx1
   obtain⟨y0,y1,y2,y3⟩:=hy1
   have hc:∀(w1:World),In B w1 (n+1) x->In B w1 (m+1) y->B<=w1.heap.size->Calls Tryz.prog 110 #[.agg #[.int .i64 x.1.1,.int .i64 x.1.2.1,.string x.1.2.2,.slice x.2.1.1 x.2.2.length x.2.1.2],.agg #[.int .i64 y.1.1,.int .i64 y.1.2.1,.string y.1.2.2,.slice y.2.1.1 y.2.2.length y.2.1.2]] w1 fun e w'=>e=.returned (.int .i64 (ve (n+1) x (m+1) y))/\Below w1.heap.size w1 w':=fun w1 h1 h2 h3=>ih x (m+1) y B w1 h1 h2 h3
   have HC:=hide hc
   clear hc ih
   have HX:=hide hx2
   have HY:=hide hy2
   clear hx2 hy2
   generalize ve (n+1) x (m+1) y=r at*
   generalize x.2.2.length=xl at*
   generalize y.2.2.length=yl at*
   have hk1:(0:Int)<=(k:Int):=by omega
   have hk2:(k:Int)<(len:Int):=by omega
   have hB':B<=wr.heap.size:=Nat.le_trans hB hb.size
   have HCD:=hide (HC.out wr.drew (HX.out.below (Below.refl _ _).drew) (HY.out.below (Below.refl _ _).drew) hB')
   have hpw:pb<wr.heap.size:=by omega
   have hqw:qb<wr.heap.size:=by omega
   clear HC HX HY
   go_wp2_with fail
   go_region_held3 (fun w'=>w'.cell? ⟨pb,po+k*4,none⟩=some (.int .i64 x.1.1)/\w'.cell? ⟨pb,po+k*4+1,none⟩=some (.int .i64 x.1.2.1)/\w'.cell? ⟨pb,po+k*4+2,none⟩=some (.string x.1.2.2)/\w'.cell? ⟨pb,po+k*4+3,none⟩=some (.slice x.2.1.1 xl x.2.1.2)
       /\w'.cell? ⟨qb,qo+k*4,none⟩=some (.int .i64 y.1.1)/\w'.cell? ⟨qb,qo+k*4+1,none⟩=some (.int .i64 y.1.2.1)/\w'.cell? ⟨qb,qo+k*4+2,none⟩=some (.string y.1.2.2)/\w'.cell? ⟨qb,qo+k*4+3,none⟩=some (.slice y.2.1.1 yl y.2.1.2))
    (go_keep) ((go_at_call 110;refine HCD.out.mono ?_;rintro e w1 ⟨rfl,hb1⟩;have hcc:=ag (bz hb1)))
   have hb2:Below w.heap.size w w1:=hb.trans ((bz hb1).mono hb.size)
   by_cases hr:r=0
   ·have HR:Hid (r=0):=hr
    have hr1:(r !=0)=false:=by rw[hr];rfl
    clear hr
    go_wp2_with fail
    go_roundw
    case rel=>exact⟨k+1,by omega,by go_num,hb2,by rw[<-hd.out,HS.out,if_pos HR.out];rfl⟩
    case measure=>simp[intOf];omega
   ·have HR:Hid (¬r=0):=hr
    have hr1:(r !=0)=true:=by simpa using hr
    clear hr
    go_wp2_with fail
    go_ret
    exact⟨bA (by rw[<-hd.out,HS.out,if_neg HR.out]),hb2⟩
  ·go_wp2_with fail
   go_ret
   refine⟨bA ?_,hb⟩
   rw[<-hd.out,List.drop_eq_nil_of_le (by rw[hpl.out];omega)]
   rfl
theorem yY (n m:Nat) (a c:Option Addr) (pc qc:Nat) (w:World):
    Calls Tryz.prog 117 #[.slice a ([]:List (Tm n)).length pc,.slice c ([]:List (Tm m)).length qc] w fun e w'=>e=.returned (.int .i64 (lY (fun a b=>ve n a m b) [] []))/\Below w.heap.size w w':=by
 show Calls Tryz.prog 117 #[.slice a 0 pc,.slice c 0 qc] w fun e w'=>e=.returned (.int .i64 0)/\Below w.heap.size w w'
 go_enter Tryz.func117,Tryz.ntmps117
 go_wp2_with fail
 go_loop [19] (fun i=>i=.int .i64 0) (fun _=>0)
 case atStart=>rfl
 case round=>
  obtain rfl:=hrel
  go_wp2_with fail
  go_ret
  exact⟨rfl,Below.refl _ _⟩
theorem Ai (w:World) (k k' u u':Int) (s s':ByteArray) (a a':Option Addr) (pl ql pc qc:Nat) (e:¬k=k'):
    Calls Tryz.prog 110 #[.agg #[.int .i64 k,.int .i64 u,.string s,.slice a pl pc],.agg #[.int .i64 k',.int .i64 u',.string s',.slice a' ql qc]] w fun e w'=>e=.returned (.int .i64 (lg k k'))/\Below w.heap.size w w':=by
 have hk:(k !=k')=true:=by simpa using e
 clear e
 go_enter Tryz.func110,Tryz.ntmps110
 go_wp2_with (go_at_call 115;refine(tK _ _ _).mono ?_;rintro e w' ⟨rfl,rfl⟩)
 go_ret
 exact⟨rfl,((Below.refl _ _).alloc (Nat.le_refl _) _).alloc (by simp) _⟩
theorem oM (w:World) (k u u':Int) (s s':ByteArray) (a a':Option Addr) (pl ql pc qc:Nat) (r:Int) (h:k=1∨k=3∨k=5):
    Calls Tryz.prog 110 #[.agg #[.int .i64 k,.int .i64 u,.string s,.slice a pl pc],.agg #[.int .i64 k,.int .i64 u',.string s',.slice a' ql qc]] w fun e w'=>e=.returned (.int .i64 (if k=1∨k=3∨k=5 then lg u u' else if k=2 then tV s s' else if k=4 then r else 0))/\Below w.heap.size w w':=by
 rw[if_pos h]
 rcases h with rfl|rfl|rfl
 all_goals
  go_enter Tryz.func110,Tryz.ntmps110
  go_wp2_with (go_at_call 115;refine(tK _ _ _).mono ?_;rintro e w' ⟨rfl,rfl⟩)
  go_ret
  exact⟨rfl,((Below.refl _ _).alloc (Nat.le_refl _) _).alloc (by simp) _⟩
theorem Ed (w:World) (u u':Int) (s s':ByteArray) (a a':Option Addr) (pl ql pc qc:Nat):
    Calls Tryz.prog 110 #[.agg #[.int .i64 2,.int .i64 u,.string s,.slice a pl pc],.agg #[.int .i64 2,.int .i64 u',.string s',.slice a' ql qc]] w fun e w'=>e=.returned (.int .i64 (tV s s'))/\Below w.heap.size w w':=by
 go_enter Tryz.func110,Tryz.ntmps110
 go_wp2_with (go_at_call 116;refine(Gw _ _ _).mono ?_;rintro e w' ⟨rfl,rfl⟩)
 go_ret
 exact⟨rfl,((Below.refl _ _).alloc (Nat.le_refl _) _).alloc (by simp) _⟩
theorem Bu (w:World) (k u u':Int) (s s':ByteArray) (a a':Option Addr) (pl ql pc qc:Nat) (e1:¬k=1) (e2:¬k=2) (e3:¬k=3) (e4:¬k=4) (e5:¬k=5):
    Calls Tryz.prog 110 #[.agg #[.int .i64 k,.int .i64 u,.string s,.slice a pl pc],.agg #[.int .i64 k,.int .i64 u',.string s',.slice a' ql qc]] w fun e w'=>e=.returned (.int .i64 0)/\Below w.heap.size w w':=by
 have h1:(k==1)=false:=by simpa using e1
 have h2:(k==2)=false:=by simpa using e2
 have h3:(k==3)=false:=by simpa using e3
 have h4:(k==4)=false:=by simpa using e4
 have h5:(k==5)=false:=by simpa using e5
 clear e1 e2 e3 e4 e5
 go_enter Tryz.func110,Tryz.ntmps110
 go_wp2_with fail
 go_ret
 exact⟨rfl,((Below.refl _ _).alloc (Nat.le_refl _) _).alloc (by simp) _⟩
theorem Dp (w:World) (u u':Int) (s s':ByteArray) (a a':Option Addr) (pl ql pc qc:Nat) (r:Int)
    (h:∀w1:World,Below w.heap.size w w1->Calls Tryz.prog 117 #[.slice a pl pc,.slice a' ql qc] w1 fun e w'=>e=.returned (.int .i64 r)/\Below w1.heap.size w1 w'):
    Calls Tryz.prog 110 #[.agg #[.int .i64 4,.int .i64 u,.string s,.slice a pl pc],.agg #[.int .i64 4,.int .i64 u',.string s',.slice a' ql qc]] w fun e w'=>e=.returned (.int .i64 r)/\Below w.heap.size w w':=by
 have H:=hide h
 clear h
 go_enter Tryz.func110,Tryz.ntmps110
 go_wp2_with fail
 refine(H.out _ (((Below.refl _ _).alloc (Nat.le_refl _) _).alloc (by simp) _)).mono ?_
 rintro e w' ⟨rfl,hb⟩
 go_wp2_with fail
 go_ret
 exact⟨rfl,(((Below.refl _ _).alloc (Nat.le_refl _) _).alloc (by simp) _).trans (hb.mono (by simp;omega))⟩
theorem Ec (n:Nat):F5 n:=by
 induction n with
 | zero=>intro x m y B w hx;exact hx.elim
 | succ n ih=>
  intro x m y B w hx hy hB
  cases m with
  | zero=>exact hy.elim
  | succ m=>
  obtain⟨⟨k,u,s⟩,⟨a,pc⟩,p⟩:=x
  obtain⟨⟨k',u',s'⟩,⟨a',qc⟩,q⟩:=y
  obtain⟨⟨hk,hu,hs,hpl,hpc⟩,hp⟩:=hx
  obtain⟨⟨hk',hu',hs',hql,hqc⟩,hq⟩:=hy
  simp only at hk hu hs hpl hpc hp hk' hu' hs' hql hqc hq
  show Calls Tryz.prog 110 #[.agg #[.int .i64 k,.int .i64 u,.string s,.slice a p.length pc],.agg #[.int .i64 k',.int .i64 u',.string s',.slice a' q.length qc]] w fun e w'=>e=.returned (.int .i64 (if k=k' then
   if k=1∨k=3∨k=5 then lg u u' else if k=2 then tV s s' else if k=4 then if p.length=q.length then lY (fun a b=>ve n a m b) p q else lg p.length q.length
   else 0 else lg k k'))/\Below w.heap.size w w'
  have hargs:∀w1:World,Below w.heap.size w w1->Calls Tryz.prog 117 #[.slice a p.length pc,.slice a' q.length qc] w1 fun e w'=>e=.returned (.int .i64 (if p.length=q.length then lY (fun a b=>ve n a m b) p q else lg p.length q.length))/\Below w1.heap.size w1 w':=by
   intro w1 hw
   unfold maxLen at hpc hqc
   by_cases hl:p.length=q.length
   ·rw[if_pos hl]
    rcases hp with hp|⟨pb,po,rfl,hpb,hp⟩
    ·subst hp
     have hq0:q=[]:=List.eq_nil_of_length_eq_zero hl.symm
     subst hq0
     exact yY n m a a' pc qc w1
    ·rcases hq with hq|⟨qb,qo,rfl,hqb,hq⟩
     ·subst hq
      have hp0:p=[]:=List.eq_nil_of_length_eq_zero hl
      subst hp0
      exact yY n m _ a' pc qc w1
     ·have h:=Hz n m ih p q p.length rfl hl.symm pb po qb qo pc qc B w1 (by omega) hpb hqb (fun i y hy=>⟨(hp i y hy).1.below (hw.mono hB) hpb,(hp i y hy).2.below (hw.mono hB)⟩)
        (fun i y hy=>⟨(hq i y hy).1.below (hw.mono hB) hqb,(hq i y hy).2.below (hw.mono hB)⟩) (Nat.le_trans hB hw.size)
      rw[hl]at h
      rw[hl]
      exact h
   ·rw[if_neg hl]
    refine(Hy p.length q.length a a' pc qc w1 (by omega) (by omega) (by simp;omega)).mono ?_
    rintro e w' ⟨rfl,rfl⟩
    exact⟨rfl,Below.refl _ _⟩
  generalize (if p.length=q.length then lY (fun a b=>ve n a m b) p q else lg p.length q.length)=r at*
  clear hp hq ih hpl hpc hql hqc hs hs' hB
  generalize p.length=pl at*
  generalize q.length=ql at*
  obtain⟨hk1,hk2⟩:=hk
  obtain⟨hk1',hk2'⟩:=hk'
  by_cases e:k=k'
  ·subst e
   rw[if_pos rfl]
   by_cases e1:k=1
   ·subst e1
    exact oM w 1 u u' s s' a a' pl ql pc qc r (Or.inl rfl)
   by_cases e3:k=3
   ·subst e3
    exact oM w 3 u u' s s' a a' pl ql pc qc r (Or.inr (Or.inl rfl))
   by_cases e5:k=5
   ·subst e5
    exact oM w 5 u u' s s' a a' pl ql pc qc r (Or.inr (Or.inr rfl))
   rw[if_neg (by omega)]
   by_cases e2:k=2
   ·subst e2
    exact Ed w u u' s s' a a' pl ql pc qc
   rw[if_neg e2]
   by_cases e4:k=4
   ·subst e4
    exact Dp w u u' s s' a a' pl ql pc qc r hargs
   rw[if_neg e4]
   exact Bu w k u u' s s' a a' pl ql pc qc e1 e2 e3 e4 e5
  ·rw[if_neg e]
   exact Ai w k k' u u' s s' a a' pl ql pc qc e
theorem iD (k u:Int) (s:ByteArray) (a:Option Addr) (l c:Nat) (w:World):
    Calls Tryz.prog 107 #[.agg #[.int .i64 k,.int .i64 u,.string s,.slice a l c]] w fun e w'=>e=.returned (.bool (!(k==6)))/\Below w.heap.size w w':=by
 cases h:k==6
 all_goals
  go_enter Tryz.func107,Tryz.ntmps107
  go_wp2_with fail
  go_ret
  exact⟨dD (by simp[bne,h]),(Below.refl _ _).alloc (Nat.le_refl _) _⟩
theorem yH (x:An) (y:An) (B:Nat) (w:World) (hx:InA B w x) (hy:InA B w y) (hB:B<=w.heap.size) (rx:ak x) (ry:ak y):
    Calls Tryz.prog 110 #[val x.1 x.2,val y.1 y.2] w fun e w'=>∃r,e=.returned (.int .i64 r)/\Hid ((r==0)=bY x y)/\Below w.heap.size w w':=by
 refine(Ec x.1 x.2 y.1 y.2 B w hx hy hB).mono ?_
 rintro e w' ⟨rfl,hb⟩
 refine⟨_,rfl, ?_,hb⟩
 have h:=xJ x.1 x.2 y.1 y.2 rx ry
 unfold Hid bY
 cases hs:same x.1 x.2 y.1 y.2
 ·rw[hs]at h
  simp only[Bool.false_eq_true,iff_false]at h
  simpa using h
 ·rw[hs]at h
  simp only[iff_true]at h
  simpa using h
theorem EY (b:List An) (base g c B:Nat) (w:World) (k:Nat) (hk:k<4) (m:Nat) (t:Tm (m+1)) (hb:Bnd B w b) (ht:In B w (m+1) t) (hr:ak ⟨m+1,t⟩) (hB:B<=base) (H:Has base g c b w):
    Calls Tryz.prog 108 #[.slice (some ⟨g,0,none⟩) 4 c,.int .i64 k,.agg #[.int .i64 t.1.1,.int .i64 t.1.2.1,.string t.1.2.2,.slice t.2.1.1 t.2.2.length t.2.1.2]] w (FitPost base g c (nA b k ⟨m+1,t⟩) w):=by
 obtain⟨y,hy⟩:∃y,b[k]? =some y:=⟨b[k]'(by rw[hb.1];exact hk),List.getElem?_eq_getElem _⟩
 obtain⟨hy1,hy2⟩:=hb.2 y (List.mem_of_getElem? hy)
 obtain⟨n,y⟩:=y
 cases n with
 | zero=>exact hy1.elim
 | succ n=>
 have HV:Hid (nA b k ⟨m+1,t⟩=if y.1.1=6 then some (b.set k ⟨m+1,t⟩)else if bY ⟨n+1,y⟩ ⟨m+1,t⟩then some b else none):=by simp only[Hid,nA,hy,bE];rfl
 obtain⟨c0,c1,c2,c3⟩:=H.cells k _ hy
 simp only[iW,dF,aO]at c0 c1 c2 c3
 have hk1:(0:Int)<=(k:Int):=by omega
 have hk2:(k:Int)<4:=by omega
 have HH:=hide H
 have HY:=hide hy
 have hgw:g<w.heap.size:=H.lt.2
 clear hy H
 generalize nA b k ⟨m+1,t⟩=o at*
 cases h6:y.1.1==6
 case true=>
  go_enter Tryz.func108,Tryz.ntmps108
  go_wp2_with fail
  refine(iD _ _ _ _ _ _ _).mono ?_
  rintro e w1 ⟨rfl,hb1⟩
  have HB1:=hide hb1
  clear c0 c1 c2 c3
  have H1:Hid (Has base g c b w1):=(HH.out.kept (World.grownBy_alloc w _ none) (by simp)).below hb1
  have hf:=fun j=>H1.out.free j
  obtain⟨⟨t0,t1,t2,t3⟩,_⟩:=boxed hb1
  obtain⟨c0,c1,c2,c3⟩:=H1.out.cells k _ HY.out
  simp only[iW,dF,aO]at c0 c1 c2 c3
  clear hb1
  go_wp2_with fail
  go_ret
  have ho:o=some (b.set k ⟨m+1,t⟩):=by rw[HV.out,if_pos (by simpa using h6)]
  subst ho
  exact⟨rfl,jw (aZ (((Below.refl _ _).alloc (Nat.le_refl _) _).trans (HB1.out.mono (by simp))) _) (sP _ _ _ _),fun b' e=>by obtain rfl:=Option.some.inj e;exact H1.out.put k ⟨m+1,t⟩ (by rw[hb.1];exact hk)⟩
 case false=>
  go_enter Tryz.func108,Tryz.ntmps108
  go_wp2_with fail
  refine(iD _ _ _ _ _ _ _).mono ?_
  rintro e w1 ⟨rfl,hb1⟩
  clear c0 c1 c2 c3
  have HB1:Hid (Below w.heap.size w w1):=((Below.refl _ _).alloc (Nat.le_refl _) _).trans (hb1.mono (by simp))
  have H1:Hid (Has base g c b w1):=(HH.out.kept (World.grownBy_alloc w _ none) (by simp)).below hb1
  obtain⟨⟨t0,t1,t2,t3⟩,_⟩:=boxed hb1
  obtain⟨c0,c1,c2,c3⟩:=H1.out.cells k _ HY.out
  simp only[iW,dF,aO]at c0 c1 c2 c3
  have HBB:Hid (B<=w.heap.size):=by have:=HH.out.lt;unfold Hid;omega
  have HLT:Hid (w.heap.size<w1.heap.size):=by have:=hb1.size;simp at this;unfold Hid;omega
  have HI:Hid (InA B w1 ⟨n+1,y⟩/\InA B w1 ⟨m+1,t⟩):=⟨hy1.below (HB1.out.mono HBB.out),InA.below (x:=⟨m+1,t⟩) (HB1.out.mono HBB.out) ht⟩
  have HO:=hide (yH ⟨n+1,y⟩ ⟨m+1,t⟩ B w1.drew (HI.out.1.below (Below.refl _ _).drew) (HI.out.2.below (Below.refl _ _).drew) (Nat.le_trans HBB.out HB1.out.size) hy2 hr)
  clear hb1 ht hy1 hb hy2 hr
  go_wp2_with fail
  go_region_held3 (fun w'=>w'.cell? ⟨g,k*4,none⟩=some (.int .i64 y.1.1)/\w'.cell? ⟨g,k*4+1,none⟩=some (.int .i64 y.1.2.1)/\w'.cell? ⟨g,k*4+2,none⟩=some (.string y.1.2.2)/\w'.cell? ⟨g,k*4+3,none⟩=some (.slice y.2.1.1 y.2.2.length y.2.1.2)
        /\w'.cell? ⟨w.heap.size,0,none⟩=some (.int .i64 t.1.1)/\w'.cell? ⟨w.heap.size,1,none⟩=some (.int .i64 t.1.2.1)/\w'.cell? ⟨w.heap.size,2,none⟩=some (.string t.1.2.2)/\w'.cell? ⟨w.heap.size,3,none⟩=some (.slice t.2.1.1 t.2.2.length t.2.1.2))
      (go_keep) ((go_at_call 110;refine HO.out.mono ?_;rintro e w2 ⟨r,rfl,HR,hb2⟩;have hcc:=ag (bz hb2);have hgg:g<w1.heap.size:=Nat.lt_of_lt_of_le hgw HB1.out.size;have hgh:w.heap.size<w1.heap.size:=HLT.out))
  replace hb2:=bz hb2
  have HP:Hid (w.grownBy w2 (some g)/\Has base g c b w2):=⟨aZ (HB1.out.trans (hb2.mono HB1.out.size)) _,H1.out.below hb2⟩
  have ho:o=if bY ⟨n+1,y⟩ ⟨m+1,t⟩then some b else none:=by rw[HV.out,if_neg (by simpa using h6)]
  rw[<-HR.out]at ho
  clear HR HV
  cases h0:r==0
  all_goals
   rw[h0]at ho
   go_wp2_with fail
   go_ret
   simp only[Bool.false_eq_true,if_false,if_true]at ho
   subst ho
  ·exact⟨rfl,HP.out.1,fun b' e=>by cases e⟩
  ·exact⟨rfl,HP.out.1,fun b' e=>by obtain rfl:=Option.some.inj e;exact HP.out.2⟩
def shut (x:Nd):Bool:= !(x.1.1==5) && !(x.1.1==6)
def ic (n:Nat) (x:Tm n):Bool:=(nodes n x).all shut
def ai:(n:Nat)->Tm n->Bool
 | 0,_=>true
 | n+1,x=> !(x.1.1==5) && !(x.1.1==6) && x.2.2.all fun y=>ai n y
theorem bZ:(n:Nat)->(x:Tm n)->ai n x=ic n x
 | 0,_=>by simp[ai,ic,nodes,shut]
 | n+1,x=>by
  have key:∀l:List (Tm n),(l.all fun y=>ai n y)=(l.flatMap fun y=>nodes n y).all shut:=by
   intro l
   induction l with
   | nil=>rfl
   | cons y l ih=>
    have:=bZ n y
    unfold ic at this
    simp only[List.all_cons,List.flatMap_cons,List.all_append,ih,this]
  show (!(x.1.1==5) && !(x.1.1==6) && x.2.2.all fun y=>ai n y)=(shut (x.1,(x.2.1.1,x.2.2.length,x.2.1.2)) && (x.2.2.flatMap fun y=>nodes n y).all shut)
  rw[key]
  rfl
def Kc (n:Nat):Prop:=∀(x:Tm n) (B:Nat) (w:World),In B w n x->B<=w.heap.size->
 Calls Tryz.prog 52 #[val n x] w fun e w'=>e=.returned (.bool (ai n x))/\Below w.heap.size w w'
theorem xu (n:Nat) (ih:Kc n) (k0 u0:Int) (s:ByteArray) (a:Option Addr) (pc len:Nat) (p:List (Tm n)) (hpl:Hid (p.length=len)) (B:Nat) (w:World)
    (hp:Hid (p=[]∨∃b o,a=some ⟨b,o,none⟩/\b<B/\∀(i:Nat) (y:Tm n),p[i]? =some y->Held w b (o+i*4) n y/\In B w n y))
    (hlen:len<=9223372036854775807) (hB:B<=w.heap.size):
    Calls Tryz.prog 52 #[.agg #[.int .i64 k0,.int .i64 u0,.string s,.slice a len pc]] w fun e w'=>e=.returned (.bool (!(k0==5) && !(k0==6) && p.all fun y=>ai n y))/\Below w.heap.size w w':=by
 cases h5:k0==5
 case true=>
  go_enter Tryz.func52,Tryz.ntmps52
  go_wp2_with fail
  go_ret
  exact⟨aU (by simp),(Below.refl _ _).alloc (Nat.le_refl _) _⟩
 cases h6:k0==6
 case true=>
  go_enter Tryz.func52,Tryz.ntmps52
  go_wp2_with fail
  go_ret
  exact⟨aU (by simp),(Below.refl _ _).alloc (Nat.le_refl _) _⟩
 have e0:(!false && !false && p.all fun y=>ai n y)=p.all fun y=>ai n y:=by simp
 rw[e0]
 clear e0
 go_enter Tryz.func52,Tryz.ntmps52
 go_wp2_with fail
 go_loopw [16] (fun i wr=>∃k:Nat,k<=len/\i=.int .i64 k/\Below w.heap.size w wr/\Hid (((p.drop k).all fun y=>ai n y)=p.all fun y=>ai n y)) (fun i _=>len-(intOf i).toNat)
 case atStart=>exact⟨0,by omega,rfl,(Below.refl _ _).alloc (Nat.le_refl _) _,rfl⟩
 case round=>
  obtain⟨k,hk,rfl,hb,hd⟩:=hrel
  by_cases hlt:k<len
  ·obtain⟨x,hx⟩:∃x,p[k]? =some x:=⟨p[k]'(by rw[hpl.out];exact hlt),List.getElem?_eq_getElem _⟩
   have HS:Hid (((p.drop k).all fun y=>ai n y)=(ai n x && (p.drop (k+1)).all fun y=>ai n y)):=by
    obtain⟨h1,e1⟩:=List.getElem?_eq_some_iff.1 hx
    rw[List.drop_eq_getElem_cons h1,e1]
    rfl
   rcases hp.out with hp|⟨pb,po,rfl,hpb,hp⟩
   ·subst hp;simp at hx
   obtain⟨hx1,hx2⟩:=hp k x hx
   replace hx1:=hx1.below (hb.mono hB) hpb
   replace hx2:=hx2.below (hb.mono hB)
   clear hp hx
   cases n with
   | zero=>exact hx1.elim
   | succ n=>
   obtain⟨x0,x1,x2,x3⟩:=hx1
   have hB':B<=wr.heap.size:=Nat.le_trans hB hb.size
   have HC:Hid (∀w1,Below wr.heap.size wr w1->Calls Tryz.prog 52 #[.agg #[.int .i64 x.1.1,.int .i64 x.1.2.1,.string x.1.2.2,.slice x.2.1.1 x.2.2.length x.2.1.2]] w1 fun e w'=>e=.returned (.bool (ai (n+1) x))/\Below w1.heap.size w1 w'):=
    fun w1 h1=>ih x B w1 (hx2.below (h1.mono hB')) (Nat.le_trans hB' h1.size)
   clear ih hx2
   generalize x.2.2.length=xl at*
   generalize ai (n+1) x=r at*
   have hk1:(0:Int)<=(k:Int):=by omega
   have hk2:(k:Int)<(len:Int):=by omega
   go_wp2_with fail
   refine(HC.out _ ((Below.refl _ _).alloc (Nat.le_refl _) _)).mono ?_
   rintro e w1 ⟨rfl,hb1⟩
   have hb2:Below w.heap.size w w1:=(hb.trans (((Below.refl _ _).alloc (Nat.le_refl _) _).mono hb.size)).trans (hb1.mono (by have:=hb.size;simp;omega))
   clear hb1
   cases r with
   | true=>
    go_wp2_with fail
    go_roundw
    case rel=>exact⟨k+1,by omega,by go_num,hb2,by rw[<-hd.out,HS.out];rfl⟩
    case measure=>simp[intOf];omega
   | false=>
    go_wp2_with fail
    go_ret
    exact⟨aU (by rw[<-hd.out,HS.out];rfl),hb2⟩
  ·go_wp2_with fail
   go_ret
   refine⟨aU ?_,hb⟩
   rw[<-hd.out,List.drop_eq_nil_of_le (by rw[hpl.out];omega)]
   rfl
theorem ku (n:Nat):Kc n:=by
 induction n with
 | zero=>intro x B w hx;exact hx.elim
 | succ n ih=>
  intro x B w hx hB
  obtain⟨⟨k,u,s⟩,⟨a,pc⟩,p⟩:=x
  obtain⟨⟨_,_,_,hpl,hpc⟩,hp⟩:=hx
  simp only at hpl hpc hp
  unfold maxLen at hpc
  exact xu n ih k u s a pc p.length p rfl B w hp (by omega) hB
theorem vW (w:World) (c0 c1:Int) (c2:ByteArray) (xa:Option Addr) (xl xc:Nat) (N:List Nd) (D:List Int) (L:Nat) (HL:Hid (N.length=L)) (hL:L<=2097152)
    (HALL:Hid (∀w1,Below w.heap.size w w1->Calls Tryz.prog 58 #[.agg #[.int .i64 c0,.int .i64 c1,.string c2,.slice xa xl xc],.int .i64 0] w1 fun e w'=>
     ∃g c h c',e=.returned (.tuple #[.slice (some ⟨g,0,none⟩) L c,.slice (some ⟨h,0,none⟩) L c'])/\
      Hid (g≠h/\Below w1.heap.size w1 w'/\w'.ownsRow w1.heap.size 25 4 (.slice (some ⟨g,0,none⟩) L c) L (aD N)/\w'.ownsRow w1.heap.size 3 1 (.slice (some ⟨h,0,none⟩) L c') L (ints D)))):
    Calls Tryz.prog 57 #[.agg #[.int .i64 c0,.int .i64 c1,.string c2,.slice xa xl xc]] w fun e w'=>e=.returned (.bool (N.all shut))/\Below w.heap.size w w':=by
 go_enter Tryz.func57,Tryz.ntmps57
 go_wp2_with fail
 refine(HALL.out _ ((Below.refl _ _).alloc (Nat.le_refl _) _)).mono ?_
 rintro e w1 ⟨g,c,h,c',rfl,HO⟩
 have HB1:Hid (Below w.heap.size w w1):=((Below.refl _ _).alloc (Nat.le_refl _) _).trans (HO.out.2.1.mono (by simp))
 have HOW:=hide HO.out.2.2.1
 clear HO
 go_wp2_with fail
 go_loop [5] (fun i=>∃k:Nat,k<=L/\i=.int .i64 k/\Hid ((N.drop k).all shut=N.all shut)) (fun i=>L-(intOf i).toNat)
 case atStart=>exact⟨0,by omega,rfl,rfl⟩
 case round=>
  obtain⟨k,hk,rfl,HD⟩:=hrel
  by_cases hlt:k<L
  ·obtain⟨x,hx⟩:∃x,N[k]? =some x:=⟨N[k]'(by rw[HL.out];exact hlt),List.getElem?_eq_getElem _⟩
   have HS:Hid ((N.drop k).all shut=(shut x && (N.drop (k+1)).all shut)):=by
    obtain⟨h1,e1⟩:=List.getElem?_eq_some_iff.1 hx
    rw[List.drop_eq_getElem_cons h1,e1]
    rfl
   obtain⟨x0,_,_,_⟩:=oC HOW.out k x hx
   obtain⟨⟨kk,uu,ss⟩,⟨aa,ll,cc⟩⟩:=x
   simp only at x0
   clear hx
   have hk1:(0:Int)<=(k:Int):=by omega
   have hk2:(k:Int)<(L:Int):=by omega
   cases h5:kk==5
   case true=>
    have HX:Hid (shut ((kk,uu,ss),(aa,ll,cc))=false):=by simp[Hid,shut,h5]
    go_wp2_with fail
    go_ret
    exact⟨aU (by rw[<-HD.out,HS.out,HX.out];rfl),HB1.out⟩
   cases h6:kk==6
   case true=>
    have HX:Hid (shut ((kk,uu,ss),(aa,ll,cc))=false):=by simp[Hid,shut,h6]
    go_wp2_with fail
    go_ret
    exact⟨aU (by rw[<-HD.out,HS.out,HX.out];rfl),HB1.out⟩
   have HX:Hid (shut ((kk,uu,ss),(aa,ll,cc))=true):=by simp[Hid,shut,h5,h6]
   go_wp2_with fail
   go_round
   case rel=>exact⟨k+1,by omega,by go_num,by simp only[Hid];rw[<-HD.out,HS.out,HX.out];rfl⟩
   case measure=>simp[intOf];omega
  ·go_wp2_with fail
   go_ret
   refine⟨aU ?_,HB1.out⟩
   rw[<-HD.out,List.drop_eq_nil_of_le (by rw[HL.out];omega)]
   rfl
theorem qg (n:Nat) (x:Tm n) (B:Nat) (w:World) (hx:In B w n x) (hB:B<=w.heap.size) (hN:(nodes n x).length<=2097152):
    Calls Tryz.prog 57 #[val n x] w fun e w'=>e=.returned (.bool (ic n x))/\Below w.heap.size w w':=by
 cases n with
 | zero=>exact hx.elim
 | succ n=>
 exact vW w x.1.1 x.1.2.1 x.1.2.2 x.2.1.1 x.2.2.length x.2.1.2 (nodes (n+1) x) (dL (n+1) x 0) (nodes (n+1) x).length rfl hN
  (fun w1 hw=>BX (n+1) x 0 B w1 (hx.below (hw.mono hB)) (Nat.le_trans hB hw.size) (by omega) (by omega))
end Go.Proofs.YtbknffhilfoakaaGreat
