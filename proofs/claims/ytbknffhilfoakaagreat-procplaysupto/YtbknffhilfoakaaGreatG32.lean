/- What is proved here: the document's value of a tuple that is nothing special, or a sum, from what it returns of each part. No condition but that it lies in memory. -/
import Derived.Test.YtbknffhilfoakaaGreatG30
namespace Go.Proofs.YtbknffhilfoakaaGreat
open Go.RowKit
set_option maxHeartbeats 2000000
set_option maxRecDepth 100000
def Jb (N:Nat) (l:List (Tm N)):Option (Tm (N+1)):=(l[1]?).bind fun a=>(l[2]?).bind fun c=>mW N a c
def ui (N:Nat) (ia:Bool) (o:Option (List (Tm N))):Option (Tm (N+1)):=o.bind fun l=>if ia then Jb N l else some (bV N l)
def AC {n N:Nat} (f:Tm n->Option (Tm N)) (y:Tm n) (e:Tm N):Prop:=∃z,f y=some z/\same N e N z=true
def KT (P:Nat->Prop) (B N q:Nat) {n:Nat} (f:Tm n->Option (Tm N)) (p:List (Tm n)) (w:World) (x1:Int) (x2:ByteArray) (pa:Option Addr) (len pc:Nat) (kk:Nat) (v:Value) (wr:World):Prop:=
 w.heap.size+2<=q/\BoxT w.heap.size (.int .i64 4) (.int .i64 x1) (.string x2) (.slice pa len pc) wr/\BoxT (w.heap.size+1) (.int .i64 0) (.int .i64 0) (.string .empty) (.slice none 0 0) wr/\∃xs,RvP P B N q (AC f) p w (.int .i64 4) (.int .i64 0) (.string .empty) kk xs v wr
theorem oD (w:World) (v0 v1 v2 v3:Value):BoxT w.heap.size v0 v1 v2 v3 (w.alloc (.cells #[v0,v1,v2,v3] 25)):=heap_alloc_new w _
theorem xD (w:World) (x0 x1 x2 x3 y0 y1 y2 y3:Value):BoxT w.heap.size x0 x1 x2 x3 ((w.alloc (.cells #[x0,x1,x2,x3] 25)).alloc (.cells #[y0,y1,y2,y3] 25))/\BoxT (w.heap.size+1) y0 y1 y2 y3 ((w.alloc (.cells #[x0,x1,x2,x3] 25)).alloc (.cells #[y0,y1,y2,y3] 25)):=by
 have e1:(w.alloc (.cells #[x0,x1,x2,x3] 25)).heap.size=w.heap.size+1:=by simp
 have h2:=oD (w.alloc (.cells #[x0,x1,x2,x3] 25)) y0 y1 y2 y3
 rw[e1]at h2
 exact⟨(oD w x0 x1 x2 x3).below ((Below.refl _ _).alloc (Nat.le_refl _) _),h2⟩
theorem RvP.later {P:Nat->Prop} {B N q n:Nat} {Rel:Tm n->Tm N->Prop} {p:List (Tm n)} {w:World} {v0 v1 v2:Value} {k:Nat} {xs:List (Tm N)} {v:Value} {wr w1:World} (h:RvP P B N q Rel p w v0 v1 v2 k xs v wr) (hb:Below wr.heap.size wr w1):RvP P B N q Rel p w v0 v1 v2 k xs v w1:=by
 obtain⟨h1,h2,h3,h4,h5,h6⟩:=h
 exact⟨h1.trans (hb.mono h1.size),h2.below hb,h3,own_below h4 hb,fun y hy=>⟨((h5 y hy).1.below hb).mono hb.size,(h5 y hy).2⟩,h6⟩
theorem yX {α β:Type} (f:α->β->Bool):(p:List α)->(q:List β)->p.length=q.length->(∀(i:Nat) (x:α) (y:β),p[i]? =some x->q[i]? =some y->f x y=true)->aj f p q=true
 | [],[],_,_=>rfl
 | [],_::_,h,_=>by simp at h
 | _::_,[],h,_=>by simp at h
 | x::p,y::q,h,hf=>by
  simp only[aj,Bool.and_eq_true]
  exact⟨hf 0 x y (by simp) (by simp),yX f p q (by simpa using h) fun i x' y' hx hy=>hf (i+1) x' y' (by simpa using hx) (by simpa using hy)⟩
theorem GA {P:Nat->Prop} {B N q n:Nat} {f:Tm n->Option (Tm N)} {p:List (Tm n)} {w:World} {v0 v1 v2:Value} {k:Nat} {xs:List (Tm N)} {v:Value} {wr:World} (h:RvP P B N q (AC f) p w v0 v1 v2 k xs v wr) (hl:p.length=k):
    fM f p=some (vals f p)/\aj (fun a b=>same N a N b) xs (vals f p)=true:=by
 obtain⟨_,_,h3,_,_,h6⟩:=h
 have each:∀(i:Nat) (y:Tm n),p[i]? =some y->∃e,xs[i]? =some e/\AC f y e:=fun i y hy=>by
  have hi:i<xs.length:=by have:=(List.getElem?_eq_some_iff.1 hy).1;omega
  exact⟨xs[i],List.getElem?_eq_getElem hi,h6 i y _ hy (List.getElem?_eq_getElem hi)⟩
 refine⟨yA (k:=p.length) (fun i y _ hy=> ?_) (Nat.le_refl _),yX _ _ _ (by rw[sU];omega) fun i e z he hz=> ?_⟩
 ·obtain⟨e,_,z,hz,_⟩:=each i y hy
  rw[hz]
  rfl
 ·have hi:i<p.length:=by have:=(List.getElem?_eq_some_iff.1 he).1;omega
  obtain⟨e',he',z',hz',hs⟩:=each i p[i] (List.getElem?_eq_getElem hi)
  rw[he]at he'
  obtain rfl:=Option.some.inj he'
  simp[vals,List.getElem?_eq_getElem hi,hz']at hz
  subst hz
  exact hs
theorem ER {P:Nat->Prop} {B N q n:Nat} {f:Tm n->Option (Tm N)} {p:List (Tm n)} {w:World} {k:Nat} {xs:List (Tm N)} {va:Option Addr} {vc:Nat} {wr:World} (h:RvP P B N q (AC f) p w (.int .i64 4) (.int .i64 0) (.string .empty) k xs (.slice va k vc) wr) (hl:p.length=k) (hB:B<=w.heap.size) (hq:w.heap.size+2<=q) (u0 u1 u2 u3:Value):
    pO P B (N+1) (some (bV N (vals f p))) w (.returned (.tuple #[.agg #[.int .i64 4,.int .i64 0,.string .empty,.slice va k vc],.bool true])) (bG wr (w.heap.size+1) 0 u0 u1 u2 u3):=by
 have hs:=(GA h hl).2
 obtain⟨h1,h2,h3,h4,h5,h6⟩:=h
 have hin:∀y∈xs,In wr.heap.size (bG wr (w.heap.size+1) 0 u0 u1 u2 u3) N y:=fun y hy=>by
  obtain⟨k1,k2⟩:=h5 y hy
  exact In.off (P:=fun b=>((P b/\b<B)∨q<b)/\(Value.slice va k vc).ownBlock≠some b) (fun b hb=>au (by rcases hb.1 with h|h<;>omega) _ _ _ _) k2 k1
 refine⟨((4,0,.empty),(va,vc),xs),true,by simp only[val,h3],aR h1 (by omega) _ _ _ _, ?_, ?_,rfl,fun z hz=> ?_⟩
 ·rcases h4.2 with⟨e,h0⟩|⟨g,cap,cur,e,hgb,hh,hc,hm,_⟩
  ·injection e with e1 e2 e3
   have hx0:xs=[]:=List.eq_nil_of_length_eq_zero (by omega)
   subst hx0
   exact⟨⟨by simp[dZ],by simp[dZ],Nat.zero_le _,Nat.zero_le _,by simp only[e3];exact Nat.zero_le _⟩,Or.inl rfl⟩
  ·injection e with e1 e2 e3
   subst e1 e3
   refine⟨⟨by simp[dZ],by simp[dZ],Nat.zero_le _,by simp only[h3];exact hc,hm⟩,Or.inr ⟨g,0,rfl,by rw[aF];exact(Array.getElem?_eq_some_iff.1 hh).1,fun i y hy=>⟨Held.block (au (by omega) _ _ _ _) ?_, ?_⟩⟩⟩
   ·have k1:=(h5 y (List.mem_of_getElem? hy)).1
    cases N with
    | zero=>exact k1.elim
    | succ N=>exact Ck h4 i y hy
   ·rw[aF]
    exact hin y (List.mem_of_getElem? hy)
 ·rcases h4.2 with⟨e,h0⟩|⟨g,cap,cur,e,hgb,hh,hc,hm,_⟩
  ·have hx0:xs=[]:=List.eq_nil_of_length_eq_zero (by omega)
   exact Or.inl hx0
  ·injection e with e1 e2 e3
   subst e1 e3
   exact Or.inr ⟨g,0,rfl,Or.inr (by omega),fun i y hy=>(h5 y (List.mem_of_getElem? hy)).2.mono fun b hb=>hb.1.imp id fun h=>by omega⟩
 ·obtain rfl:=Option.some.inj hz
  exact bX rfl hs
theorem Ba {P:Nat->Prop} {B N q n:Nat} {f:Tm n->Option (Tm N)} {p:List (Tm n)} {w:World} {v0 v1 v2:Value} {xs:List (Tm N)} {va:Option Addr} {vc:Nat} {wr:World} (h:RvP P B N q (AC f) p w v0 v1 v2 3 xs (.slice va 3 vc) wr) (hl:p.length=3) (hs:aj (fun a b=>same N a N b) xs (vals f p)=true):
    ∃(g:Nat) (e1 e2:Nd) (z1 z2:Tm N),va=some ⟨g,0,none⟩/\g<wr.heap.size/\wr.cell? ⟨g,4,none⟩=some (.int .i64 e1.1.1)/\wr.cell? ⟨g,4+1,none⟩=some (.int .i64 e1.1.2.1)/\wr.cell? ⟨g,4+2,none⟩=some (.string e1.1.2.2)/\wr.cell? ⟨g,4+3,none⟩=some (.slice e1.2.1 e1.2.2.1 e1.2.2.2)/\
     wr.cell? ⟨g,8,none⟩=some (.int .i64 e2.1.1)/\wr.cell? ⟨g,8+1,none⟩=some (.int .i64 e2.1.2.1)/\wr.cell? ⟨g,8+2,none⟩=some (.string e2.1.2.2)/\wr.cell? ⟨g,8+3,none⟩=some (.slice e2.2.1 e2.2.2.1 e2.2.2.2)/\
     Hid ((vals f p)[1]? =some z1/\(vals f p)[2]? =some z2/\(e1.1.1=bE ⟨N,z1⟩/\e1.1.2.1=iL N z1)/\e2.1.1=bE ⟨N,z2⟩/\e2.1.2.1=iL N z2):=by
 obtain⟨h1,h2,h3,h4,h5,h6⟩:=h
 have hv:(vals f p).length=3:=by rw[sU];exact hl
 rcases h4.2 with⟨e,h0⟩|⟨g,cap,cur,e,hgb,hh,hc,hm,_⟩
 ·cases h0
 ·injection e with e1 e2 e3
  subst e1 e3
  have key:∀i,i<3->∃(x z:Tm N),xs[i]? =some x/\(vals f p)[i]? =some z/\same N x N z=true:=fun i hi=>
   ⟨xs[i]'(by omega),(vals f p)[i]'(by omega),List.getElem?_eq_getElem _,List.getElem?_eq_getElem _,iY _ _ _ hs i _ _ (List.getElem?_eq_getElem _) (List.getElem?_eq_getElem _)⟩
  obtain⟨x1,z1,hx1,hz1,s1⟩:=key 1 (by omega)
  obtain⟨x2,z2,hx2,hz2,s2⟩:=key 2 (by omega)
  obtain⟨a0,a1,a2,a3⟩:=oC h4 1 (dF N x1) (by simp[hx1])
  obtain⟨b0,b1,b2,b3⟩:=oC h4 2 (dF N x2) (by simp[hx2])
  have hk:∀(x z:Tm N),same N x N z=true->(dF N x).1.1=bE ⟨N,z⟩/\(dF N x).1.2.1=iL N z:=fun x z hxz=>by
   cases N with
   | zero=>simp[same]at hxz
   | succ N=>
    have:=(bQ hxz).1
    simp[dF,aO,bE,iL,this]
  exact⟨g,dF N x1,dF N x2,z1,z2,rfl,(Array.getElem?_eq_some_iff.1 hh).1,by simpa using a0,by simpa using a1,by simpa using a2,by simpa using a3,by simpa using b0,by simpa using b1,by simpa using b2,by simpa using b3,hz1,hz2,hk x1 z1 s1,hk x2 z2 s2⟩
theorem mY {P:Nat->Prop} {B N:Nat} {o:Option (Tm (N+1))} {w w':World} (hb:Below w.heap.size w w') (s:Int) (hs:dZ s) (r:Bool) (hr:r=o.isSome) (ho:∀z,o=some z->z=aQ 1 s N):
    pO P B (N+1) o w (.returned (.tuple #[.agg #[.int .i64 1,.int .i64 s,.string .empty,.slice none 0 0],.bool r])) w':=
 ⟨aQ 1 s N,r,rfl,hb,(cZ N 1 s (by simp[dZ]) hs _ _ (fun _=>True)).1,(cZ N 1 s (by simp[dZ]) hs 0 w _).2,hr,fun z hz=>by rw[ho z hz];exact jN N 1 s⟩
theorem Jl {N:Nat} {z1 z2:Tm N} {k1 k2 u1 u2:Int} (h1:k1=bE ⟨N,z1⟩) (h2:u1=iL N z1) (h3:k2=bE ⟨N,z2⟩) (h4:u2=iL N z2):mW N z1 z2=if (k1==1 && k2==1 && eZ (u1+u2) (-1099511627776) 1099511627776)=true then some (aQ 1 (u1+u2) N)else none:=by
 rw[h1,h2,h3,h4]
 rfl
theorem Hm {w W:World} {x0 x1 x2 x3 y0 y1 y2 y3:Value} {t1 t2:TypeId} {q:Nat} {u0 u1 u2 u3:Value} (h:((w.alloc (.cells #[x0,x1,x2,x3] t1)).alloc (.cells #[y0,y1,y2,y3] t2)).drew=W) (hq:BoxT q u0 u1 u2 u3 w):
    Below w.heap.size w W/\(W.cell? ⟨w.heap.size,0,none⟩=some x0/\W.cell? ⟨w.heap.size,1,none⟩=some x1)/\(W.cell? ⟨w.heap.size+1,0,none⟩=some y0/\W.cell? ⟨w.heap.size+1,1,none⟩=some y1)/\BoxT q u0 u1 u2 u3 W:=by
 subst h
 have hb:Below w.heap.size w ((w.alloc (.cells #[x0,x1,x2,x3] t1)).alloc (.cells #[y0,y1,y2,y3] t2)).drew:=(((Below.refl _ _).alloc (Nat.le_refl _) _).alloc (by simp) _).drew
 exact⟨hb,⟨by simp[go_sem],by simp[go_sem]⟩,⟨by simp[go_sem],by simp[go_sem]⟩,hq.below hb⟩
theorem Ij {P:Nat->Prop} {B N n:Nat} {w w':World} (hn:n<=N) {k u:Int} {s:ByteArray} {a:Option Addr} {len c:Nat} {p:List (Tm n)} (h:In B w (n+1) ((k,u,s),(a,c),p)) (hof:Off P (n+1) ((k,u,s),(a,c),p)) (hl:p.length=len) (hB:B<=w.heap.size) (hb:Below w.heap.size w w'):
    pO P B (N+1) none w (.returned (.tuple #[.agg #[.int .i64 k,.int .i64 u,.string s,.slice a len c],.bool false])) w':=by
 have h1:=fZ (N+1) (n+1) (by omega) _ _ _ h
 refine⟨lift (N+1) (n+1) ((k,u,s),(a,c),p),false, ?_,hb,(h1.below (hb.mono hB)).mono (Nat.le_trans hB hb.size),(In.offB (jG _ _ (by omega) _ hof) h1).mono fun b hb=>Or.inl hb,rfl,fun z hz=>by cases hz⟩
 have e:=mX N n ((k,u,s),(a,c),p)
 rw[<-hl]
 exact congrArg (fun v=>Ending.returned (Value.tuple #[v,Value.bool false])) e.symm
theorem uJ {w:World} {base e size:Nat} {v:Value} {n:Nat} {xs:List Value} (h:w.ownsRow base e size v n xs):∃a c,v=.slice a n c:=by
 rcases h.2 with⟨rfl,rfl⟩|⟨g,cap,cur,rfl,_⟩
 ·exact⟨none,0,rfl⟩
 ·exact⟨_,_,rfl⟩
theorem Jf {n N:Nat} {f:Tm n->Option (Tm N)} {x:Tm n} {X:Tm N} {o:Option (Tm N)} (h:o=f x) (h1:true=o.isSome) (h2:∀z,o=some z->same N X N z=true):AC f x X:=by
 cases o with
 | none=>cases h1
 | some z=>exact⟨z,h.symm,h2 z rfl⟩
theorem Dl (w:World) (o:Obj) (x:Nd):∀j u,(kG x)[j]? =some u->((w.alloc o).alloc (.cells #[.int .i64 x.1.1,.int .i64 x.1.2.1,.string x.1.2.2,.slice x.2.1 x.2.2.1 x.2.2.2] 25)).cell? ((⟨w.heap.size+1,0,none⟩:Addr).add j)=some u:=by
 intro j u hj
 rw[cu]
 have:j<4:=(List.getElem?_eq_some_iff.1 hj).1
 have h4:j=0∨j=1∨j=2∨j=3:=by omega
 rcases h4 with rfl|rfl|rfl|rfl<;>simp[kG]at hj<;>subst hj<;>simp[go_sem]
theorem Il (x:Nd):∀u∈kG x,u.oneCell'=true:=by
 intro u hu
 simp[kG]at hu
 rcases hu with rfl|rfl|rfl|rfl<;>rfl
theorem Ic {wr w3 w4:World} {q:Nat} {e size n:Nat} {v u:Value} {xs:List Value} {o o1:Obj} (h:wr.ownsRow (q+1) e size v n xs) (hq:q<w3.heap.size) (hg:((w3.alloc o).alloc o1).grownBy w4 v.ownBlock) (hc:w3.cell? ⟨q,3,none⟩=some u) (hf:w3.frozen? ⟨q,3,none⟩=false):w4.cell? ⟨q,3,none⟩=some u/\w4.frozen? ⟨q,3,none⟩=false:=by
 have hne:v.ownBlock≠some q:=fun e=>by have:=(h.lt _ e).1;omega
 have h1:w4.heap[q]? =w3.heap[q]? :=(hg.block q (by simp;omega) (fun e=>hne e.symm)).trans ((mf _ _ (by simp;omega)).trans (mf _ _ hq))
 exact⟨(aK h1 _).trans hc,(World.frozen?_of_block (a:=⟨q,3,none⟩) h1).trans hf⟩
theorem Ha (P:Nat->Prop) (m:Nat) (b:List (Tm m)) (self:Int) (n:Nat) (ih:Hid (KP m b self n)) (p:List (Tm n)) (x1:Int) (x2:ByteArray) (pa:Option Addr) (len pc:Nat) (hpl:Hid (p.length=len)) (hlen:len<=8) (a:Option Addr) (c B:Nat) (ia:Bool) (w:World) (h3:Hid (ia=true->len=3)) (HNum:Hid (∀(l:List (Tm (m+n))),fM (fun y=>vl m b self n y) p=some l->∀(i:Nat) (z:Tm (m+n)),l[i]? =some z-> -1099511627776<=iL (m+n) z/\iL (m+n) z<=1099511627776))
    (hin:Hid (In B w (n+1) ((4,x1,x2),(pa,pc),p))) (hp:Hid (Lies B w n p pa)) (hrp:Hid (∀y∈p,ak ⟨n,y⟩)) (hNp:Hid (∀y∈p,(nodes n y).length<=2097152)) (hof:Hid (Off P (n+1) ((4,x1,x2),(pa,pc),p))) (hb:Hid (LiesT P B w m b a)) (hB:B<=w.heap.size)
    (HI1:Hid (∀w1,Below w.heap.size w w1->Calls Tryz.prog 89 #[.agg #[.int .i64 4,.int .i64 x1,.string x2,.slice pa len pc],.string iZ,.int .i64 0] w1 fun e w'=>e=.returned (.bool false)/\Below w1.heap.size w1 w'))
    (HI2:Hid (∀w1,Below w.heap.size w w1->Calls Tryz.prog 89 #[.agg #[.int .i64 4,.int .i64 x1,.string x2,.slice pa len pc],.string qx,.int .i64 1] w1 fun e w'=>e=.returned (.bool false)/\Below w1.heap.size w1 w'))
    (HI3:Hid (∀w1,Below w.heap.size w w1->Calls Tryz.prog 89 #[.agg #[.int .i64 4,.int .i64 x1,.string x2,.slice pa len pc],.string mq,.int .i64 2] w1 fun e w'=>e=.returned (.bool ia)/\Below w1.heap.size w1 w')):
    Calls Tryz.prog 74 #[.agg #[.int .i64 4,.int .i64 x1,.string x2,.slice pa len pc],.slice a 4 c,.int .i64 self] w (pO P B (m+n+1) (ui (m+n) ia (fM (fun y=>vl m b self n y) p)) w):=by
 obtain⟨o,ho⟩:∃o,o=ui (m+n) ia (fM (fun y=>vl m b self n y) p):=⟨_,rfl⟩
 rw[<-ho]
 have HO:=hide ho
 clear ho
 obtain⟨it,hit,htz0,htz1,htz2⟩:=info_parts bP
 have HT:=hide (⟨hit,htz0,htz1,htz2⟩:_/\_/\_/\_)
 clear hit htz0 htz1 htz2
 go_enter Tryz.func74,Tryz.ntmps74
 go_wp2_with fail
 refine(HI1.out _ (bT w _ _ _ _ _ _).1).mono ?_
 rintro e w1 ⟨rfl,hb1⟩
 have HB1:Hid (Below w.heap.size w w1):=(bT w _ _ _ _ _ _).1.trans (hb1.mono (bT w _ _ _ _ _ _).1.size)
 have HX1:Hid (BoxT w.heap.size (.int .i64 4) (.int .i64 x1) (.string x2) (.slice pa len pc) w1/\BoxT (w.heap.size+1) (.int .i64 0) (.int .i64 0) (.string .empty) (.slice none 0 0) w1):=⟨(xD w _ _ _ _ _ _ _ _).1.below hb1,(xD w _ _ _ _ _ _ _ _).2.below hb1⟩
 obtain⟨⟨k0,k1,k2,k3⟩,_⟩:=HX1.out.1.cells
 clear hb1 HI1
 go_wp2_with fail
 refine(HI2.out _ HB1.out).mono ?_
 rintro e w2 ⟨rfl,hb2⟩
 have HB2:Hid (Below w.heap.size w w2):=HB1.out.trans (hb2.mono HB1.out.size)
 have HX2:Hid (BoxT w.heap.size (.int .i64 4) (.int .i64 x1) (.string x2) (.slice pa len pc) w2/\BoxT (w.heap.size+1) (.int .i64 0) (.int .i64 0) (.string .empty) (.slice none 0 0) w2):=⟨HX1.out.1.below hb2,HX1.out.2.below hb2⟩
 clear hb2 HI2 HB1 HX1 k0 k1 k2 k3
 have hqs:w.heap.size+2<=w2.heap.size:=by have:=HX2.out.2.lt;omega
 obtain⟨q,hq⟩:∃q,q=w2.heap.size:=⟨_,rfl⟩
 have HST:Hid (KT P B (m+n) q (fun y=>vl m b self n y) p w x1 x2 pa len pc 0 (.slice none 0 0) (w2.alloc (.cells #[.int .i64 4,.int .i64 0,.string ⟨#[]⟩,.slice none 0 0] 25))):=by
  have hal:Below w2.heap.size w2 (w2.alloc (.cells #[.int .i64 4,.int .i64 0,.string ⟨#[]⟩,.slice none 0 0] 25)):=(Below.refl _ _).alloc (Nat.le_refl _) _
  refine⟨by omega,HX2.out.1.below hal,HX2.out.2.below hal,[],HB2.out.trans (hal.mono HB2.out.size), ?_,rfl,World.ownsRow_nil _ _ _ _,(fun y hy=>by cases hy),(fun i y e _ he=>by simp at he)⟩
  rw[hq]
  exact oD w2 _ _ _ _
 clear HX2 HB2
 go_wp2_with fail
 rw[<-hq]
 clear hq hqs
 go_loopw [9] (fun i wr=>∃(kk:Nat) (v:Value),kk<=len/\i=.int .i64 kk/\Hid (KT P B (m+n) q (fun y=>vl m b self n y) p w x1 x2 pa len pc kk v wr)) (fun i _=>len-(intOf i).toNat)
 case atStart=>exact⟨0,_,by omega,rfl,HST.out⟩
 case round=>
  obtain⟨kk,v,hkk,rfl,HR⟩:=hrel
  clear HST
  obtain⟨hqw,HBX,HBZ,xs,HP⟩:w.heap.size+2<=q/\Hid (BoxT w.heap.size (.int .i64 4) (.int .i64 x1) (.string x2) (.slice pa len pc) wr)/\Hid (BoxT (w.heap.size+1) (.int .i64 0) (.int .i64 0) (.string .empty) (.slice none 0 0) wr)/\∃xs,Hid (RvP P B (m+n) q (AC (fun y=>vl m b self n y)) p w (.int .i64 4) (.int .i64 0) (.string .empty) kk xs v wr):=HR.out
  clear HR
  obtain⟨⟨k0,k1,k2,k3⟩,_⟩:=HBX.out.cells
  obtain⟨⟨c0,c1,c2,c3⟩,hqf⟩:=HP.out.2.1.cells
  have hqr:q<wr.heap.size:=HP.out.2.1.lt
  have hwr:w.heap.size<wr.heap.size:=HBX.out.lt
  by_cases hlt:kk<len
  ·obtain⟨x,hx⟩:∃x,p[kk]? =some x:=⟨p[kk]'(by rw[hpl.out];exact hlt),List.getElem?_eq_getElem _⟩
   have HX:=hide hx
   have HRX:=hide (hrp.out x (List.mem_of_getElem? hx))
   have HOX:Hid (Off P n x):=by
    rcases hof.out with e|⟨_,_,_,_,h⟩
    ·have e:p=[]:=e
     rw[e]at hx
     simp at hx
    ·exact h kk x hx
   have HNX:=hide (hNp.out x (List.mem_of_getElem? hx))
   rcases hp.out with hp|⟨pb,po,rfl,hpb,hp⟩
   ·subst hp;simp at hx
   obtain⟨hx1,hx2⟩:=hp kk x hx
   have hbw:Below w.heap.size w wr:=HP.out.1
   replace hx1:=hx1.below (hbw.mono hB) hpb
   replace hx2:=hx2.below (hbw.mono hB)
   have HL2:=hide (hb.out.below hbw hB)
   have hBr:B<=wr.heap.size:=Nat.le_trans hB hbw.size
   have HV:Hid (∀w1,Below wr.heap.size wr w1->Calls Tryz.prog 74 #[val n x,.slice a 4 c,.int .i64 self] w1 (pO P B (m+n) (vl m b self n x) w1)):=
    fun w1 h1=>ih.out P x a c B w1 (hx2.below (h1.mono hBr)) HOX.out HRX.out HNX.out (HL2.out.below h1 hBr) (Nat.le_trans hBr h1.size)
   obtain⟨ox,hox⟩:∃ox,ox=vl m b self n x:=⟨_,rfl⟩
   rw[<-hox]at HV
   have HOX:=hide hox
   clear hp hx hbw hox hx2
   cases n with
   | zero=>exact hx1.elim
   | succ n=>
   obtain⟨y0,y1,y2,y3⟩:=hx1
   have e3:val (n+1) x=.agg #[.int .i64 x.1.1,.int .i64 x.1.2.1,.string x.1.2.2,.slice x.2.1.1 x.2.2.length x.2.1.2]:=rfl
   rw[e3]at HV
   clear e3
   have hk1:(0:Int)<=(kk:Int):=by omega
   have hk2:(kk:Int)<(len:Int):=by omega
   have hpw:pb<wr.heap.size:=by omega
   go_wp2_with fail
   refine(HV.out _ (Below.refl _ _)).mono ?_
   rintro e w3 ⟨X,r,rfl,HY⟩
   have HB3:Hid (Below w.heap.size w w3):=HP.out.1.trans (HY.out.1.mono HP.out.1.size)
   have HBX3:=hide (HBX.out.below HY.out.1)
   have HBZ3:=hide (HBZ.out.below HY.out.1)
   have hqr3:q<w3.heap.size:=Nat.lt_of_lt_of_le hqr HY.out.1.size
   obtain⟨⟨k0,k1,k2,k3⟩,_⟩:=HBX3.out.cells
   obtain⟨⟨z0,z1,z2,z3⟩,hzf⟩:=HBZ3.out.cells
   have hwr3:w.heap.size<w3.heap.size:=HBX3.out.lt
   have hzr3:w.heap.size+1<w3.heap.size:=HBZ3.out.lt
   have e3:val (m+(n+1)) X=.agg #[.int .i64 X.1.1,.int .i64 X.1.2.1,.string X.1.2.2,.slice X.2.1.1 X.2.2.length X.2.1.2]:=rfl
   rw[e3]
   clear e3 HV y0 y1 y2 y3
   cases r
   ·have HF:Hid (o=none):=by
      have h1:vl m b self (n+1) x=none:=by
       have:=HY.out.2.2.2.1
       rw[<-HOX.out]
       cases ox with
       | none=>rfl
       | some z=>cases this
      show o=none
      rw[HO.out,oN _ p kk x HX.out h1]
      rfl
    have HIN:=hide (hin.out)
    clear HY HP hp
    go_wp2_with fail
    rw[HF.out]
    exact bodyPost_ret (v:=.tuple #[.agg #[.int .i64 4,.int .i64 x1,.string x2,.slice (some ⟨pb,po,none⟩) len pc],.bool false]) (by simp[results,Tryz.results74,go_sem,z0,z1,z2,z3,hzr3]) rfl (Ij (by omega) HIN.out hof.out hpl.out hB ((aR HB3.out (by omega) _ _ _ _).alloc (by rw[aF];omega) _))
   ·have c3':w3.cell? ⟨q,3,none⟩=some v:=(ag HY.out.1 _ _ hqr).trans c3
    have hqf3:w3.frozen? ⟨q,3,none⟩=false:=(HY.out.1.frozen (p:=⟨q,3,none⟩) hqr).trans (hqf 3)
    clear c0 c1 c2 c3 hqf
    have HRW:Hid (wr.ownsRow (q+1) 25 4 v kk (aD (xs.map (dF (m+(n+1)))))):=HP.out.2.2.2.1
    have HA3:=fun o=>hide (HY.out.1.trans (((Below.refl w3.heap.size w3).alloc (Nat.le_refl _) o).mono HY.out.1.size))
    have HVO:=hide (uJ HRW.out)
    obtain⟨va,vc,hv⟩:=HVO.out
    subst hv
    have HST:=fun(o o1:Obj) (g c:Nat) (w4:World) hown hgrow hat=>hide (HP.out.step hB (by omega) (HA3 o).out X ((HY.out.2.1.below ((Below.refl w3.heap.size w3).alloc (Nat.le_refl _) o)).mono (by simp)) HY.out.2.2.1 x HX.out (Jf (f:=fun y=>vl m b self (n+1) y) HOX.out HY.out.2.2.2.1 HY.out.2.2.2.2) (o1:=o1) (w2:=w4) (g:=g) (c:=c) hown hgrow hat)
    go_wp2_with (at_builtin;refine wpList_append_lies _ rfl _ _ 23 rfl (q+1) 25 it _ 4 56 Tryz.underlying23 HT.out.1 HT.out.2.1 HT.out.2.2.1 HT.out.2.2.2 rfl (by decide) (.slice va kk vc) kk (aD (xs.map (dF (m+(n+1))))) (by simp[Act.eval]) ((own_below HRW.out (HA3 _).out).alloc _) ⟨w3.heap.size+1,0,none⟩ 1 1 (kG (dF (m+(n+1)) X)) (by simp[Act.eval]) rfl (Dl w3 _ (dF (m+(n+1)) X)) (Il _) (by decide) (by unfold maxLen;omega) (by omega) (by simp;omega) (w3.heap.size+1+1) (by simp) ?_;intro g4 c4 w4 hown4 hgrow4 hat4 hlt4;obtain⟨hq4,hf4⟩:=Ic HRW.out hqr3 hgrow4 c3' hqf3;have HS4:=HST _ _ g4 c4 w4 hown4 hgrow4 (by simpa using hat4);clear hown4 hgrow4 hat4)
    refine⟨⟨kk+1,_,by omega,by go_num,hqw,HS4.out.2.2 _ _ _ _ _ (by omega) HBX.out,HS4.out.2.2 _ _ _ _ _ (by omega) HBZ.out,_,HS4.out.1⟩,by simp[intOf];omega⟩
  ·obtain rfl:kk=len:=by omega
   have HRV:=hide (GA HP.out hpl.out)
   have HBW:Hid (Below w.heap.size w wr):=HP.out.1
   obtain⟨va,vc,hv⟩:=uJ HP.out.2.2.2.1
   subst hv
   clear ih hp hin hrp hNp hb hlt
   go_wp2_with fail
   refine(HI3.out _ HBW.out).mono ?_
   rintro e w3 ⟨rfl,hb3⟩
   have HB3:Hid (Below w.heap.size w w3):=HBW.out.trans (hb3.mono HBW.out.size)
   have HP3:=hide (HP.out.later hb3)
   have HBZ3:=hide (HBZ.out.below hb3)
   obtain⟨⟨z0,z1,z2,z3⟩,hzf⟩:=HBZ3.out.cells
   replace c0:=(ag hb3 _ _ hqr).trans c0
   replace c1:=(ag hb3 _ _ hqr).trans c1
   replace c2:=(ag hb3 _ _ hqr).trans c2
   replace c3:=(ag hb3 _ _ hqr).trans c3
   have hqr3:q<w3.heap.size:=Nat.lt_of_lt_of_le hqr hb3.size
   have hzr3:w.heap.size+1<w3.heap.size:=HBZ3.out.lt
   clear hb3 HI3 HP HBX HBZ hqf k0 k1 k2 k3 HBW
   cases ia
   ·have HF:Hid (o=some (bV (m+n) (vals (fun y=>vl m b self n y) p))):=by
      show o=_
      rw[HO.out,HRV.out.1]
      rfl
    have HD:=fun v0 v1 v2 v3=>hide (ER HP3.out hpl.out (by omega) hqw v0 v1 v2 v3)
    clear HP3
    go_wp2_with fail
    rw[HF.out]
    exact bodyPost_ret (v:=.tuple #[.agg #[.int .i64 4,.int .i64 0,.string .empty,.slice va kk vc],.bool true]) (by simp[results,Tryz.results74,go_sem,z0,z1,z2,z3]) rfl (HD _ _ _ _).out
   ·obtain rfl:kk=3:=h3.out rfl
    obtain⟨g,e1,e2,z1',z2',rfl,hg3,c4,c5,c6,c7,c8,c9,c10,c11,HZ⟩:=Ba HP3.out hpl.out HRV.out.2
    have HF:Hid (o=mW (m+n) z1' z2'):=by
     show o=_
     rw[HO.out,HRV.out.1]
     simp[ui,Jb,HZ.out.1,HZ.out.2.1]
    obtain⟨hn1,hn2⟩:=HNum.out _ HRV.out.1 1 z1' HZ.out.1
    obtain⟨hm1,hm2⟩:=HNum.out _ HRV.out.1 2 z2' HZ.out.2.1
    obtain⟨⟨e1k,e1n⟩,e2k,e2n⟩:=HZ.out.2.2
    rw[<-e1n]at hn1 hn2
    rw[<-e2n]at hm1 hm2
    have HKS:=hide (Jl e1k e1n e2k e2n)
    obtain⟨⟨k1,u1,t1⟩,a1,l1,p1⟩:=e1
    obtain⟨⟨k2,u2,t2⟩,a2,l2,p2⟩:=e2
    simp only at c4 c5 c6 c7 c8 c9 c10 c11 hn1 hn2 hm1 hm2 HKS
    have ew:IntKind.i64.wrap (u1+u2)=u1+u2:=by rw[IntKind.wrap];simp[IntKind.bits,IntKind.signed];omega
    have hgq:¬(w.heap.size+1=g):=by have:=(HP3.out.2.2.2.1.lt g rfl).1;omega
    clear HP3 HZ HRV HNum e1k e1n e2k e2n
    have HF2:=hide (HF.out.trans HKS.out)
    clear HF HKS HO
    go_wp2_with fail
    go_region
    all_goals
     generalize hW:World.drew (World.alloc (World.alloc w3 _) _)=W
     obtain⟨hBW,⟨zb0,zb1⟩,⟨zc0,zc1⟩,hZW⟩:=Hm hW HBZ3.out
     have HBW:Hid (Below w.heap.size w W):=HB3.out.trans (hBW.mono HB3.out.size)
     obtain⟨⟨z0,z1,z2,z3⟩,hzf⟩:=hZW.cells
     have hd1:¬(w.heap.size+1=w3.heap.size):=by omega
     have hd2:¬(w3.heap.size=w.heap.size+1):=by omega
     have hd3:¬(w.heap.size=w3.heap.size):=by omega
     have hd4:¬(w3.heap.size=w.heap.size):=by omega
     clear hW hBW HBZ3 HB3 c0 c1 c2 c3 c4 c5 c6 c7 c8 c9 c10 c11 hZW
     cases hk1:k1==1
     ·have HF3:Hid (o=none):=by rw[Hid,HF2.out,hk1];rfl
      go_wp2_with fail
      rw[HF3.out]
      exact bodyPost_ret (v:=.tuple #[.agg #[.int .i64 1,.int .i64 (u1+u2),.string .empty,.slice none 0 0],.bool false]) (by simp[results,Tryz.results74,go_sem,z0,z1,z2,z3];rfl) rfl (mY (aR HBW.out (by omega) _ _ _ _) (u1+u2) ⟨by omega,by omega⟩ false rfl (fun z hz=>by cases hz))
     ·cases hk2:k2==1
      ·have HF3:Hid (o=none):=by rw[Hid,HF2.out,hk1,hk2];rfl
       go_wp2_with fail
       rw[HF3.out]
       exact bodyPost_ret (v:=.tuple #[.agg #[.int .i64 1,.int .i64 (u1+u2),.string .empty,.slice none 0 0],.bool false]) (by simp[results,Tryz.results74,go_sem,z0,z1,z2,z3];rfl) rfl (mY (aR HBW.out (by omega) _ _ _ _) (u1+u2) ⟨by omega,by omega⟩ false rfl (fun z hz=>by cases hz))
      ·cases hI:eZ (u1+u2) (-1099511627776) 1099511627776
       ·have HF3:Hid (o=none):=by rw[Hid,HF2.out,hk1,hk2,hI];rfl
        go_wp2_with (go_at_call 9;refine(fe _ _ _ _).mono ?_;rintro e w' ⟨rfl,rfl⟩;rw[hI])
        rw[HF3.out]
        exact bodyPost_ret (v:=.tuple #[.agg #[.int .i64 1,.int .i64 (u1+u2),.string .empty,.slice none 0 0],.bool false]) (by simp[results,Tryz.results74,go_sem,z0,z1,z2,z3];rfl) rfl (mY (aR HBW.out (by omega) _ _ _ _) (u1+u2) ⟨by omega,by omega⟩ false rfl (fun z hz=>by cases hz))
       ·have HF3:Hid (o=some (aQ 1 (u1+u2) (m+n))):=by rw[Hid,HF2.out,hk1,hk2,hI];rfl
        go_wp2_with (go_at_call 9;refine(fe _ _ _ _).mono ?_;rintro e w' ⟨rfl,rfl⟩;rw[hI])
        rw[HF3.out]
        exact bodyPost_ret (v:=.tuple #[.agg #[.int .i64 1,.int .i64 (u1+u2),.string .empty,.slice none 0 0],.bool true]) (by simp[results,Tryz.results74,go_sem,z0,z1,z2,z3];rfl) rfl (mY (aR HBW.out (by omega) _ _ _ _) (u1+u2) ⟨by omega,by omega⟩ true rfl (fun z hz=>(Option.some.inj hz).symm))
end Go.Proofs.YtbknffhilfoakaaGreat
