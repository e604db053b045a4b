/- What is proved here: plain facts and contracts that the claimed theorem stands on. No condition but those that each names. -/
import Derived.Test.YtmbjgiaebneodaaGreatG23
namespace Go.Proofs.YtmbjgiaebneodaaGreat
open Go.RowKit
def jQ (db bg:Nat) (sv pv lv:Value) (q:Nat):Prop:=q=db∨q=bg∨sv.ownBlock=some q∨pv.ownBlock=some q∨lv.ownBlock=some q
def MC (base db bg:Nat) (sv pv lv:Value) (q:Nat):Prop:=base<=q/\¬jQ db bg sv pv lv q
structure DoAt (base db:Nat) (me:Int) (n D k:Nat) (nx:Int) (d:Dg) (w:World) (l:List (Tm (D+1))) (bg bc:Nat) (sd:List (Int×Tm (D+1+n+1))) (sp:List (Int×ByteArray×Tm (D+1+n+1))) (sv pv lv:Value):Prop where
 box:w.heap[db]? =some (.cells #[.slice (some ⟨bg,0,none⟩) 4 bc,.int .i64 me,.int .i64 d.next,sv,pv,lv,.bool d.stops] 142)
 own:db≠bg/\base<=db/\base<=bg/\bg<w.heap.size/\base<=w.heap.size
 bnd:eX (D+1) l=true
 tells:l.map (cn (D+1))=d.b
 row:∀(i:Nat) (y:Tm (D+1)),l[i]? =some y->Held w bg (i*4) (D+1) y/\In w.heap.size w (D+1) y/\Off (MC base db bg sv pv lv) (D+1) y
 free:∀j,w.frozen? ⟨bg,j,none⟩=false
 sRow:w.ownsRow base 149 5 sv sd.length (sd.flatMap fun z=>OE z.1 z.2)
 pRow:w.ownsRow base 146 6 pv sp.length (sp.flatMap fun z=>Po z.1 z.2.1 z.2.2)
 lRow:w.ownsRow base 3 1 lv d.links.length (d.links.map fun u=> .int .i64 u)
 sIs:sd.map (fun z=>(z.1,cn _ z.2))=d.sends
 pIs:sp.map (fun z=>(z.1,z.2.1,cn _ z.2.2))=d.spawns
 sIn:∀z∈sd,aQ _ z.2=0/\In w.heap.size w _ z.2/\Off (MC base db bg sv pv lv) _ z.2
 pIn:∀z∈sp,aQ _ z.2.2=0/\In w.heap.size w _ z.2.2/\Off (MC base db bg sv pv lv) _ z.2.2
 apart:(sv.ownBlock≠some db/\pv.ownBlock≠some db/\lv.ownBlock≠some db)/\(sv.ownBlock≠some bg/\pv.ownBlock≠some bg/\lv.ownBlock≠some bg)/\∀q,(sv.ownBlock=some q->pv.ownBlock≠some q/\lv.ownBlock≠some q)/\(pv.ownBlock=some q->lv.ownBlock≠some q)
 few:sd.length<=k/\sp.length<=k/\d.links.length<=k/\d.next=nx+sp.length/\1<=nx/\nx<=92
def Do (base db:Nat) (self:Int) (n D k:Nat) (nx:Int) (d:Dg) (S:Nat->Prop) (w0 w:World):Prop:=∃l bg bc sd sp sv pv lv,DoAt base db self n D k nx d w l bg bc sd sp sv pv lv/\∀q,jQ db bg sv pv lv q->S q∨w0.heap.size<=q
theorem qY {base n:Nat} {x:Tm n} {S S':Nat->Prop} {w w':World} (k:Kee S w w') (hS:∀q,S' q->S q∨w.heap.size<=q) (hi:In w.heap.size w n x) (ho:Off (fun q=>base<=q/\¬S q) n x):In w'.heap.size w' n x/\Off (fun q=>base<=q/\¬S' q) n x:=by
 refine⟨hi.kee k (ho.mono fun q hq=>hq.2),(In.offB ho hi).mono fun q hq=>⟨hq.1.1,fun h=> ?_⟩⟩
 rcases hS q h with h|h
 ·exact hq.1.2 h
 ·have:=hq.2
  omega
theorem EH {w w':World} {n:Nat} {q:List (Tm n)} {a:Option Addr} (h:Lies w.heap.size w n q a) (hb:Below w.heap.size w w'):Lies w'.heap.size w' n q a:=by
 rcases h.below hb with h|⟨b,o,e,hlt,h⟩
 ·exact Or.inl h
 ·exact Or.inr ⟨b,o,e,Nat.lt_of_lt_of_le hlt hb.size,fun i y hy=>⟨(h i y hy).1,(h i y hy).2.mono hb.size⟩⟩
section
variable {base db:Nat} {self:Int} {n D k:Nat} {nx:Int} {d:Dg} {w:World} {l:List (Tm (D+1))} {bg bc:Nat} {sd:List (Int×Tm (D+1+n+1))} {sp:List (Int×ByteArray×Tm (D+1+n+1))} {sv pv lv:Value}
theorem DoAt.lt (h:DoAt base db self n D k nx d w l bg bc sd sp sv pv lv):db<w.heap.size:=(Array.getElem?_eq_some_iff.1 h.box).1
theorem DoAt.high (h:DoAt base db self n D k nx d w l bg bc sd sp sv pv lv):∀q,jQ db bg sv pv lv q->base<=q:=by
 intro q hq
 obtain⟨_,h1,h2,_⟩:=h.own
 have hrow:∀{e:TypeId} {z m:Nat} {v:Value} {xs:List Value},w.ownsRow base e z v m xs->v.ownBlock=some q->base<=q:=fun hr hb=>by
  rcases hr.2 with⟨e,_⟩|⟨g,cap,cur,e,hg,_⟩
  ·rw[e]at hb
   cases hb
  ·rw[e]at hb
   have:g=q:=Option.some.inj hb
   omega
 rcases hq with rfl|rfl|hq|hq|hq
 ·exact h1
 ·exact h2
 ·exact hrow h.sRow hq
 ·exact hrow h.pRow hq
 ·exact hrow h.lRow hq
theorem DoAt.later (h:DoAt base db self n D k nx d w l bg bc sd sp sv pv lv) {w':World} (hb:Below w.heap.size w w'):DoAt base db self n D k nx d w' l bg bc sd sp sv pv lv:=by
 have hk:=aj hb (fun _=>False)
 have hs:=hb.size
 obtain⟨o1,o2,o3,o4,o5⟩:=h.own
 refine⟨(hb.block db h.lt).trans h.box,⟨o1,o2,o3,by omega,by omega⟩,h.bnd,h.tells,fun i y hy=> ?_,fun j=> ?_,aG h.sRow hk fun _ _ q=>q,aG h.pRow hk fun _ _ q=>q,aG h.lRow hk fun _ _ q=>q,h.sIs,h.pIs,fun z hz=> ?_,fun z hz=> ?_,h.apart,h.few⟩
 ·obtain⟨a,b,c⟩:=h.row i y hy
  exact⟨a.below hb o4,(b.below hb).mono hs,c⟩
 ·exact(hb.frozen (p:=⟨bg,j,none⟩) o4).trans (h.free j)
 ·obtain⟨a,b,c⟩:=h.sIn z hz
  exact⟨a,(b.below hb).mono hs,c⟩
 ·obtain⟨a,b,c⟩:=h.pIn z hz
  exact⟨a,(b.below hb).mono hs,c⟩
theorem DoAt.more (h:DoAt base db self n D k nx d w l bg bc sd sp sv pv lv) {k':Nat} (hk:k<=k'):DoAt base db self n D k' nx d w l bg bc sd sp sv pv lv:=by
 obtain⟨a,b,c,e,f⟩:=h.few
 exact{h with few:=⟨by omega,by omega,by omega,e,f⟩}
theorem DoAt.lies (h:DoAt base db self n D k nx d w l bg bc sd sp sv pv lv):Lies w.heap.size w (D+1) l (some ⟨bg,0,none⟩):=Or.inr ⟨bg,0,rfl,h.own.2.2.2.1,fun i y hy=>by
 rw[Nat.zero_add]
 exact⟨(h.row i y hy).1,(h.row i y hy).2.1⟩⟩
theorem DoAt.value (h:DoAt base db self n D k nx d w l bg bc sd sp sv pv lv) (x:Tm (n+1)) (hx:In base w (n+1) x) (hc:aQ (n+1) x=0) (hs:1<=self/\self<=99):
    ∀W,Below w.heap.size w W->Calls Tryz.prog 83 #[.pointer (some ⟨db,0,none⟩),.agg #[.int .i64 x.1.1,.int .i64 x.1.2.1,.string x.1.2.2,.slice x.2.1.1 x.2.2.length x.2.1.2]] W (xQ (D+1+n) (lS 0 (vl (D+1) l self (n+1) x)) W):=by
 intro W hW
 have hE:FN (aQ (n+1) x) (eX (D+1) l) self=0:=by simp[FN,hc,h.bnd,hs]
 have h4:=(fT h.bnd).1
 have hl:=h.lies
 have ho:=h.own.2.2.2.2
 have hv:=zZ (D+1+n) 0 (vl (D+1) l self (n+1) x) x.1.1 x.1.2.1 x.1.2.2 x.2.1.1 x.2.2.length x.2.1.2 (some ⟨bg,0,none⟩) bc self db W (Nat.lt_of_lt_of_le h.lt hW.size) ((hW.cell (p:=⟨db,0,none⟩) h.lt).trans (ae h.box 0)) ((hW.cell (p:=⟨db,1,none⟩) h.lt).trans (ae h.box 1)) fun W1 hb=>by
  have hb2:=hW.trans (hb.mono hW.size)
  have:=Ff n (D+1) x l (some ⟨bg,0,none⟩) bc W1.heap.size self W1 ((hx.below (hb2.mono ho)).mono (Nat.le_trans ho hb2.size)) (EH hl hb2) (Nat.le_refl _) (dS hc) (by rw[h4];decide) (fun y hy=>dS ((fT h.bnd).2 y hy).1)
  rw[hE,h4]at this
  exact this
 exact hv
theorem DoAt.process (h:DoAt base db self n D k nx d w l bg bc sd sp sv pv lv) (x:Tm (n+1)) (hx:In base w (n+1) x) (hc:aQ (n+1) x=0) (hs:1<=self/\self<=99):
    ∀W,Below w.heap.size w W->Calls Tryz.prog 136 #[.pointer (some ⟨db,0,none⟩),.agg #[.int .i64 x.1.1,.int .i64 x.1.2.1,.string x.1.2.2,.slice x.2.1.1 x.2.2.length x.2.1.2]] W fun e w'=>∃u,e=.returned (.tuple #[.int .i64 u,.bool (kP d.b self (n+1) x).isSome])/\Hid (Below W.heap.size W w'/\∀v,kP d.b self (n+1) x=some v->u=v):=by
 intro W hW
 have hv:=JV h.bnd h.tells self x hc
 refine(Cf (D+1+n) _ x.1.1 x.1.2.1 x.1.2.2 x.2.1.1 x.2.2.length x.2.1.2 db W fun W1 hb=>h.value x hx hc hs W1 (hW.trans (hb.mono hW.size))).mono ?_
 rintro e w' ⟨u,rfl,H⟩
 obtain⟨H1,H2⟩:=H.out
 have hp:Gl (lS 0 (vl (D+1) l self (n+1) x))=(kP d.b self (n+1) x).isSome/\∀v,kP d.b self (n+1) x=some v->u=v:=by
  unfold kP
  rw[<-hv]
  cases e:lS 0 (vl (D+1) l self (n+1) x)with
  | none=>exact⟨rfl,fun v hv=>by cases hv⟩
  | some z=>
   have h1:(cn (D+1+n+1) z).1=z.1:=rfl
   have hu:=H2 z e
   simp only[Option.map_some,Option.bind_some,Gl]
   by_cases h3:z.1.1=3
   ·have h3':(cn (D+1+n+1) z).1.1=3:=h3
    refine⟨?_,fun v hv=> ?_⟩
    ·erw [if_pos h3']
     simp[h3]
    ·erw [if_pos h3']at hv
     rw[hu,<-Option.some.inj hv]
     rfl
   ·have h3':¬(cn (D+1+n+1) z).1.1=3:=h3
    refine⟨?_,fun v hv=> ?_⟩
    ·erw [if_neg h3']
     simp[h3]
    ·erw [if_neg h3']at hv
     cases hv
 exact⟨u,by rw[hp.1],H1,hp.2⟩
end
section
variable {base db:Nat} {self:Int} {n D k:Nat} {nx:Int} {d:Dg} {w:World} {l:List (Tm (D+1))} {bg bc:Nat} {sd:List (Int×Tm (D+1+n+1))} {sp:List (Int×ByteArray×Tm (D+1+n+1))} {sv pv lv:Value}
def OneR (base db:Nat) (self:Int) (n D k:Nat) (nx:Int) (d:Dg) (a:Ac (n+1)) (S:Nat->Prop) (w:World) (t:Bool) (w':World):Prop:=
 Kee S w w'/\t=(vF self a d).isSome/\∀d',vF self a d=some d'->Do base db self n D (k+1) nx d' S w w'
theorem kv {w:World} {base:Nat} {e:TypeId} {z m:Nat} {v:Value} {xs:List Value} (h:w.ownsRow base e z v m xs):∃a c,v=.slice a m c:=by
 rcases h.2 with⟨e1,e0⟩|⟨g,cap,cur,e1,_⟩
 ·exact⟨none,0,by rw[e1,e0]⟩
 ·exact⟨_,cap,e1⟩
theorem mP {w:World} {b:Nat} {v0 v1 v2 v3 v4 v5 v6:Value} {t:TypeId} (h:w.heap[b]? =some (.cells #[v0,v1,v2,v3,v4,v5,v6] t)):
    (∀v,(w.setCell ⟨b,3,none⟩ v).heap[b]? =some (.cells #[v0,v1,v2,v,v4,v5,v6] t))/\(∀v,(w.setCell ⟨b,4,none⟩ v).heap[b]? =some (.cells #[v0,v1,v2,v3,v,v5,v6] t))/\(∀v,(w.setCell ⟨b,5,none⟩ v).heap[b]? =some (.cells #[v0,v1,v2,v3,v4,v,v6] t))/\(∀v,(w.setCell ⟨b,2,none⟩ v).heap[b]? =some (.cells #[v0,v1,v,v3,v4,v5,v6] t))/\∀v,(w.setCell ⟨b,6,none⟩ v).heap[b]? =some (.cells #[v0,v1,v2,v3,v4,v5,v] t):=by
 refine⟨fun v=> ?_,fun v=> ?_,fun v=> ?_,fun v=> ?_,fun v=> ?_⟩<;>
 ·unfold World.setCell
  simp[Array.getElem?_modify,h]
theorem uh {w:World} {b:Nat} {cs:Array Value} {t:TypeId} (h:w.heap[b]? =some (.cells cs t)) (j:Nat):w.frozen? ⟨b,j,none⟩=false:=by simp[World.frozen?,h]
theorem DoAt.frame (h:DoAt base db self n D k nx d w l bg bc sd sp sv pv lv) {w':World} {sv' pv' lv':Value} (hk:Kee (jQ db bg sv pv lv) w w') (hW:∀q,jQ db bg sv' pv' lv' q->jQ db bg sv pv lv q∨w.heap.size<=q):
    (∀(i:Nat) (y:Tm (D+1)),l[i]? =some y->In w'.heap.size w' (D+1) y/\Off (MC base db bg sv' pv' lv') (D+1) y)/\(∀z∈sd,aQ _ z.2=0/\In w'.heap.size w' _ z.2/\Off (MC base db bg sv' pv' lv') _ z.2)/\(∀z∈sp,aQ _ z.2.2=0/\In w'.heap.size w' _ z.2.2/\Off (MC base db bg sv' pv' lv') _ z.2.2)/\Below base w w':=
 ⟨fun i y hy=>qY hk hW (h.row i y hy).2.1 (h.row i y hy).2.2,fun z hz=>⟨(h.sIn z hz).1,qY hk hW (h.sIn z hz).2.1 (h.sIn z hz).2.2⟩,fun z hz=>⟨(h.pIn z hz).1,qY hk hW (h.pIn z hz).2.1 (h.pIn z hz).2.2⟩,hk.below h.own.2.2.2.2 fun b hb q=>by
  have:=h.high b q
  omega⟩
theorem DoAt.link (h:DoAt base db self n D k nx d w l bg bc sd sp sv pv lv) (a:Ac (n+1)) (ha:AcIn (n+1) base w a) (hc:aQ (n+1) a.2.1.1=0) (h3:a.1=3) (hs:1<=self/\self<=99) (hk:k<=1000):
    Calls Tryz.prog 126 #[.pointer (some ⟨db,0,none⟩),PT a] w fun e w'=>∃t,e=.returned (.bool t)/\Hid (OneR base db self n D k nx d a (jQ db bg sv pv lv) w t w'):=by
 have hrow:=h.lRow
 obtain⟨va,vc,rfl⟩:=kv hrow
 obtain⟨f1,f2,f3,f4⟩:=h.few
 have hd:vF self a d=(kP d.b self (n+1) a.2.1.1).map fun u=>{d with links:=d.links++ [u]}:=by
  simp[vF,h3]
 refine(IU a.1 a.2.1.1.1.1 a.2.1.1.1.2.1 a.2.1.1.1.2.2 a.2.1.1.2.1.1 a.2.1.1.2.2.length a.2.1.1.2.1.2 a.2.1.2.1.1 a.2.1.2.1.2.1 a.2.1.2.1.2.2 a.2.1.2.2.1.1 a.2.1.2.2.2.length a.2.1.2.2.1.2 a.2.2.1 a.2.2.2 base db va d.links.length vc _ w (kP d.b self (n+1) a.2.1.1).isSome (fun u=>∀v,kP d.b self (n+1) a.2.1.1=some v->u=v) (by omega) h.lt h.own.2.2.2.2 ⟨ae h.box 5,uh h.box 5⟩ hrow h.apart.1.2.2 (h.process a.2.1.1 ha.2.1 hc hs)).mono ?_
 rintro e w' ⟨rfl,hn,hy⟩
 refine⟨_,rfl, ?_⟩
 cases hp:kP d.b self (n+1) a.2.1.1 with
 | none=>
  have hb:=hn (by rw[hp];rfl)
  refine⟨aj hb _,by rw[hd,hp];rfl,fun d' hd'=> ?_⟩
  rw[hd,hp]at hd'
  cases hd'
 | some v=>
  obtain⟨u,g,c,w3,hu,hr3,hk3,hg,rfl⟩:=hy (by rw[hp];rfl)
  obtain rfl:=hu v hp
  have hbox3:w3.heap[db]? =_:=(hk3.block db h.lt fun q=>h.apart.1.2.2 q).trans h.box
  have hk':Kee (jQ db bg sv pv (.slice va d.links.length vc)) w (w3.setCell ⟨db,5,none⟩ (.slice (some ⟨g,0,none⟩) (d.links.length+1) c)):=Kee.trans (hk3.mono fun q _ hq=>Or.inr (Or.inr (Or.inr (Or.inr hq)))) (aP _ _ _ _) fun q _ hq=>Or.inl hq
  have hgn:∀q,q<w.heap.size->¬(Value.slice va d.links.length vc).ownBlock=some q->g≠q:=fun q hq hne e=>by
   rcases hg with hg|hg
   ·rw[e]at hg
    exact hne hg
   ·omega
  have hW:∀q,jQ db bg sv pv (.slice (some ⟨g,0,none⟩) (d.links.length+1) c) q->jQ db bg sv pv (.slice va d.links.length vc) q∨w.heap.size<=q:=fun q hq=>by
   rcases hq with hq|hq|hq|hq|hq
   ·exact Or.inl (Or.inl hq)
   ·exact Or.inl (Or.inr (Or.inl hq))
   ·exact Or.inl (Or.inr (Or.inr (Or.inl hq)))
   ·exact Or.inl (Or.inr (Or.inr (Or.inr (Or.inl hq))))
   ·have:g=q:=Option.some.inj hq
    subst this
    rcases hg with hg|hg
    ·exact Or.inl (Or.inr (Or.inr (Or.inr (Or.inr hg))))
    ·exact Or.inr hg
  obtain⟨q1,q2,q3,q4⟩:=h.frame hk' hW
  refine⟨hk',by rw[hd,hp];rfl,fun d' hd'=> ?_⟩
  rw[hd,hp]at hd'
  obtain rfl:=Option.some.inj hd'
  have hsz:=hk'.size
  obtain⟨o1,o2,o3,o4,o5⟩:=h.own
  have hks:=aP w3 db 5 (.slice (some ⟨g,0,none⟩) (d.links.length+1) c)
  have hsl:∀q,sv.ownBlock=some q->q<w.heap.size:=fun q hq=>by
   obtain⟨cur,hcu⟩:=dz h.sRow q hq
   exact(Array.getElem?_eq_some_iff.1 hcu).1
  have hpl:∀q,pv.ownBlock=some q->q<w.heap.size:=fun q hq=>by
   obtain⟨cur,hcu⟩:=dz h.pRow q hq
   exact(Array.getElem?_eq_some_iff.1 hcu).1
  have hbg3:¬(Value.slice va d.links.length vc).ownBlock=some bg:=h.apart.2.1.2.2
  refine⟨l,bg,bc,sd,sp,sv,pv,_,⟨(mP hbox3).2.2.1 _,⟨o1,o2,o3,by omega,by omega⟩,h.bnd,h.tells,fun i y hy=>⟨?_,q1 i y hy⟩,fun j=> ?_, ?_, ?_, ?_,h.sIs,h.pIs,q2,q3,⟨⟨h.apart.1.1,h.apart.1.2.1, ?_⟩,⟨h.apart.2.1.1,h.apart.2.1.2.1, ?_⟩,fun q=>⟨fun hq=>⟨((h.apart.2.2 q).1 hq).1, ?_⟩,fun hq=> ?_⟩⟩,⟨by omega,by omega,by simp;omega,f4⟩⟩,hW⟩
  ·exact((h.row i y hy).1.kee hk3 o4 hbg3).kee hks (by have:=hk3.size;omega) (fun e=>o1 e.symm)
  ·have hb1:(w3.setCell ⟨db,5,none⟩ (.slice (some ⟨g,0,none⟩) (d.links.length+1) c)).heap[bg]? =w.heap[bg]? :=(hks.block bg (by have:=hk3.size;omega) (fun e=>o1 e.symm)).trans (hk3.block bg o4 hbg3)
   have hf:=h.free j
   unfold World.frozen? at hf ⊢
   rw[hb1]
   exact hf
  ·exact aG (aG h.sRow hk3 fun q hq hl=>((h.apart.2.2 q).1 hq).2 hl) hks fun q hq e=>h.apart.1.1 (by rw[hq,e])
  ·exact aG (aG h.pRow hk3 fun q hq hl=>(h.apart.2.2 q).2 hq hl) hks fun q hq e=>h.apart.1.2.1 (by rw[hq,e])
  ·have:=aG hr3 hks fun q hq e=>hgn db h.lt h.apart.1.2.2 (by
     have:g=q:=Option.some.inj hq
     rw[this,e])
   simpa using this
  ·exact fun e=>hgn db h.lt h.apart.1.2.2 (Option.some.inj e)
  ·exact fun e=>hgn bg o4 hbg3 (Option.some.inj e)
  ·exact fun e=>hgn q (hsl q hq) (((h.apart.2.2 q).1 hq).2) (Option.some.inj e)
  ·exact fun e=>hgn q (hpl q hq) ((h.apart.2.2 q).2 hq) (Option.some.inj e)
end
section
variable {base db:Nat} {self:Int} {n D k:Nat} {nx:Int} {d:Dg} {w:World} {l:List (Tm (D+1))} {bg bc:Nat} {sd:List (Int×Tm (D+1+n+1))} {sp:List (Int×ByteArray×Tm (D+1+n+1))} {sv pv lv:Value}
theorem NN {N:Nat} {o:Option (Tm N)} {z:Tm N} (h:lS 0 o=some z):aQ N z=0:=by
 unfold lS at h
 rw[if_pos rfl]at h
 obtain⟨y,_,h⟩:=Option.bind_eq_some_iff.1 h
 by_cases hc:aQ N y=0
 ·rw[if_pos hc]at h
  rw[<-Option.some.inj h]
  exact hc
 ·rw[if_neg hc]at h
  cases h
theorem DoAt.told (h:DoAt base db self n D k nx d w l bg bc sd sp sv pv lv) (x:Tm (n+1)) (hc:aQ (n+1) x=0):
    (lS 0 (vl (D+1) l self (n+1) x)).isSome=(qL d.b self (n+1) x).isSome/\∀(z:Tm (D+1+n+1)) t,qL d.b self (n+1) x=some t->same _ z (D+1+n+1) ((lS 0 (vl (D+1) l self (n+1) x)).getD (zeroV (D+1+n)))=true->aQ _ z=0/\av _ z=true/\cn _ z=t:=by
 have hv:=JV h.bnd h.tells self x hc
 refine⟨by rw[<-hv,Option.isSome_map],fun z t ht hs=> ?_⟩
 have hok:=OX (Jy h.bnd h.tells) hc ht
 rw[<-hv]at ht
 obtain⟨z0,hz0,rfl⟩:=Option.map_eq_some_iff.1 ht
 rw[hz0]at hs
 have hs:same _ z _ z0=true:=hs
 have hcz:=(aX hs).trans (NN hz0)
 have he:=fQ hs
 refine⟨hcz, ?_,he⟩
 have h2:=hok.2.1
 rw[<-he,rO hcz]at h2
 exact h2
theorem DoAt.send (h:DoAt base db self n D k nx d w l bg bc sd sp sv pv lv) (a:Ac (n+1)) (ha:AcIn (n+1) base w a) (hc:aQ (n+1) a.2.1.1=0) (hc2:aQ (n+1) a.2.1.2=0) (h1:a.1=1) (hs:1<=self/\self<=99) (hk:k<=1000):
    Calls Tryz.prog 124 #[.pointer (some ⟨db,0,none⟩),PT a] w fun e w'=>∃t,e=.returned (.bool t)/\Hid (OneR base db self n D k nx d a (jQ db bg sv pv lv) w t w'):=by
 have hrow:=h.sRow
 obtain⟨va,vc,rfl⟩:=kv hrow
 obtain⟨f1,f2,f3,f4⟩:=h.few
 have hd:vF self a d=(kP d.b self (n+1) a.2.1.1).bind fun u=>(qL d.b self (n+1) a.2.1.2).map fun t=>{d with sends:=d.sends++ [(u,t)]}:=by
  simp[vF,h1]
 obtain⟨hso,htd⟩:=h.told (self:=self) a.2.1.2 hc2
 refine(GZ (D+1+n) a.1 a.2.1.1.1.1 a.2.1.1.1.2.1 a.2.1.1.1.2.2 a.2.1.1.2.1.1 a.2.1.1.2.2.length a.2.1.1.2.1.2 a.2.1.2.1.1 a.2.1.2.1.2.1 a.2.1.2.1.2.2 a.2.1.2.2.1.1 a.2.1.2.2.2.length a.2.1.2.2.1.2 a.2.2.1 a.2.2.2 base db va sd.length vc _ w (kP d.b self (n+1) a.2.1.1).isSome (fun u=>∀v,kP d.b self (n+1) a.2.1.1=some v->u=v) (lS 0 (vl (D+1) l self (n+1) a.2.1.2)) (by omega) h.lt h.own.2.2.2.2 ⟨ae h.box 3,uh h.box 3⟩ hrow h.apart.1.1 (h.process a.2.1.1 ha.2.1 hc hs) (h.value a.2.1.2 ha.2.2.1 hc2 hs)).mono ?_
 rintro e w' ⟨rfl,hn,hy⟩
 refine⟨_,rfl, ?_⟩
 rw[hso]at hn hy ⊢
 cases hp:kP d.b self (n+1) a.2.1.1 with
 | none=>
  have hb:=hn (by rw[hp];rfl)
  refine⟨aj hb _,by rw[hd,hp];rfl,fun d' hd'=> ?_⟩
  rw[hd,hp]at hd'
  cases hd'
 | some v=>
  cases hq:qL d.b self (n+1) a.2.1.2 with
  | none=>
   have hb:=hn (by rw[hp,hq];rfl)
   refine⟨aj hb _,by rw[hd,hp,hq];rfl,fun d' hd'=> ?_⟩
   rw[hd,hp,hq]at hd'
   cases hd'
  | some t=>
   obtain⟨u,z,g,c,w3,hu,hzs,hzi,hzo,hr3,hk3,hg,rfl⟩:=hy (by rw[hp,hq];rfl)
   obtain rfl:=hu v hp
   obtain⟨hz0,_,hzt⟩:=htd z t hq hzs
   have hbox3:w3.heap[db]? =_:=(hk3.block db h.lt fun q=>h.apart.1.1 q).trans h.box
   have hk':Kee (jQ db bg (.slice va sd.length vc) pv lv) w (w3.setCell ⟨db,3,none⟩ (.slice (some ⟨g,0,none⟩) (sd.length+1) c)):=Kee.trans (hk3.mono fun q _ hq=>Or.inr (Or.inr (Or.inl hq))) (aP _ _ _ _) fun q _ hq=>Or.inl hq
   have hgn:∀q,q<w.heap.size->¬(Value.slice va sd.length vc).ownBlock=some q->g≠q:=fun q hq hne e=>by
    rcases hg with hg|hg
    ·rw[e]at hg
     exact hne hg
    ·omega
   have hW:∀q,jQ db bg (.slice (some ⟨g,0,none⟩) (sd.length+1) c) pv lv q->jQ db bg (.slice va sd.length vc) pv lv q∨w.heap.size<=q:=fun q hq=>by
    rcases hq with hq|hq|hq|hq|hq
    ·exact Or.inl (Or.inl hq)
    ·exact Or.inl (Or.inr (Or.inl hq))
    ·have:g=q:=Option.some.inj hq
     subst this
     rcases hg with hg|hg
     ·exact Or.inl (Or.inr (Or.inr (Or.inl hg)))
     ·exact Or.inr hg
    ·exact Or.inl (Or.inr (Or.inr (Or.inr (Or.inl hq))))
    ·exact Or.inl (Or.inr (Or.inr (Or.inr (Or.inr hq))))
   obtain⟨q1,q2,q3,q4⟩:=h.frame hk' hW
   refine⟨hk',by rw[hd,hp,hq];rfl,fun d' hd'=> ?_⟩
   rw[hd,hp,hq]at hd'
   obtain rfl:=Option.some.inj hd'
   have hsz:=hk'.size
   have hsz3:=hk3.size
   obtain⟨o1,o2,o3,o4,o5⟩:=h.own
   have hks:=aP w3 db 3 (.slice (some ⟨g,0,none⟩) (sd.length+1) c)
   have hll:∀q,lv.ownBlock=some q->q<w.heap.size:=fun q hq=>by
    obtain⟨cur,hcu⟩:=dz h.lRow q hq
    exact(Array.getElem?_eq_some_iff.1 hcu).1
   have hpl:∀q,pv.ownBlock=some q->q<w.heap.size:=fun q hq=>by
    obtain⟨cur,hcu⟩:=dz h.pRow q hq
    exact(Array.getElem?_eq_some_iff.1 hcu).1
   have hbg3:¬(Value.slice va sd.length vc).ownBlock=some bg:=h.apart.2.1.1
   have hzn:Off (MC base db bg (.slice (some ⟨g,0,none⟩) (sd.length+1) c) pv lv) _ z:=hzo.mono fun q hq=>by
    have:=h.lt
    refine⟨by omega,fun hw=> ?_⟩
    rcases hw with hw|hw|hw|hw|hw
    ·omega
    ·omega
    ·exact hq.2 (Option.some.inj hw).symm
    ·have:=hpl q hw
     omega
    ·have:=hll q hw
     omega
   refine⟨l,bg,bc,sd++ [(u,z)],sp,_,pv,lv,⟨(mP hbox3).1 _,⟨o1,o2,o3,by omega,by omega⟩,h.bnd,h.tells,fun i y hy=>⟨?_,q1 i y hy⟩,fun j=> ?_, ?_, ?_, ?_, ?_,h.pIs,fun y hy=> ?_,q3,⟨⟨?_,h.apart.1.2.1,h.apart.1.2.2⟩,⟨?_,h.apart.2.1.2.1,h.apart.2.1.2.2⟩,fun q=>⟨fun hq=>⟨fun e=> ?_,fun e=> ?_⟩,(h.apart.2.2 q).2⟩⟩,⟨by simp;omega,by omega,by show d.links.length<=k+1;omega,f4⟩⟩,hW⟩
   ·exact((h.row i y hy).1.kee hk3 o4 hbg3).kee hks (by omega) (fun e=>o1 e.symm)
   ·have hb1:(w3.setCell ⟨db,3,none⟩ (.slice (some ⟨g,0,none⟩) (sd.length+1) c)).heap[bg]? =w.heap[bg]? :=(hks.block bg (by omega) (fun e=>o1 e.symm)).trans (hk3.block bg o4 hbg3)
    have hf:=h.free j
    unfold World.frozen? at hf ⊢
    rw[hb1]
    exact hf
   ·have:=aG hr3 hks fun q hq e=>hgn db h.lt h.apart.1.1 (by
      have:g=q:=Option.some.inj hq
      rw[this,e])
    simpa using this
   ·exact aG (aG h.pRow hk3 fun q hq hl=>((h.apart.2.2 q).1 hl).1 hq) hks fun q hq e=>h.apart.1.2.1 (by rw[hq,e])
   ·exact aG (aG h.lRow hk3 fun q hq hl=>((h.apart.2.2 q).1 hl).2 hq) hks fun q hq e=>h.apart.1.2.2 (by rw[hq,e])
   ·simp[h.sIs,hzt]
   ·rcases List.mem_append.1 hy with hy|hy
    ·exact q2 y hy
    ·obtain rfl:=List.mem_singleton.1 hy
     refine⟨hz0, ?_,hzn⟩
     refine hzi.kee hks (hzo.mono fun q hq e=> ?_)
     have:=h.lt
     omega
   ·exact fun e=>hgn db h.lt h.apart.1.1 (Option.some.inj e)
   ·exact fun e=>hgn bg o4 hbg3 (Option.some.inj e)
   ·have hgq:g=q:=Option.some.inj hq
    exact hgn q (hpl q e) (fun z=>((h.apart.2.2 q).1 z).1 e) hgq
   ·have hgq:g=q:=Option.some.inj hq
    exact hgn q (hll q e) (fun z=>((h.apart.2.2 q).1 z).2 e) hgq
end
theorem kM (w:World) (g o:Nat) (v0 v1 v2 v3:Value):Kee (fun b=>b=g) w (bK w g o v0 v1 v2 v3):=
 Kee.trans (Kee.trans (Kee.trans (aP w g o v0) (aP _ g (o+1) v1) fun _ _ e=>e) (aP _ g (o+2) v2) fun _ _ e=>e) (aP _ g (o+3) v3) fun _ _ e=>e
theorem Dk {w:World} {g o:Nat} {v0 v1 v2 v3:Value} (j:Nat) (hj:j<o∨o+4<=j):(bK w g o v0 v1 v2 v3).cell? ⟨g,j,none⟩=w.cell? ⟨g,j,none⟩:=by
 unfold bK
 rw[bW j (by omega),bW j (by omega),bW j (by omega),bW j (by omega)]
theorem xD {w:World} {g o:Nat} {u0 u1 u2 u3:Value} (v0 v1 v2 v3:Value) (h:w.cell? ⟨g,o,none⟩=some u0/\w.cell? ⟨g,o+1,none⟩=some u1/\w.cell? ⟨g,o+2,none⟩=some u2/\w.cell? ⟨g,o+3,none⟩=some u3):
    (bK w g o v0 v1 v2 v3).cell? ⟨g,o,none⟩=some v0/\(bK w g o v0 v1 v2 v3).cell? ⟨g,o+1,none⟩=some v1/\(bK w g o v0 v1 v2 v3).cell? ⟨g,o+2,none⟩=some v2/\(bK w g o v0 v1 v2 v3).cell? ⟨g,o+3,none⟩=some v3:=by
 obtain⟨h0,h1,h2,h3⟩:=h
 unfold bK
 refine⟨?_, ?_, ?_, ?_⟩
 ·rw[bW o (by omega),bW o (by omega),bW o (by omega)]
  exact World.cell?_setCell_same _ _ _ h0
 ·rw[bW (o+1) (by omega),bW (o+1) (by omega)]
  exact World.cell?_setCell_same _ _ _ ((bW (o+1) (by omega)).trans h1)
 ·rw[bW (o+2) (by omega)]
  exact World.cell?_setCell_same _ _ _ ((bW (o+2) (by omega)).trans ((bW (o+2) (by omega)).trans h2))
 ·exact World.cell?_setCell_same _ _ _ ((bW (o+3) (by omega)).trans ((bW (o+3) (by omega)).trans ((bW (o+3) (by omega)).trans h3)))
theorem sH {w:World} {g o:Nat} {v0 v1 v2 v3:Value} (j:Nat):(bK w g o v0 v1 v2 v3).frozen? ⟨g,j,none⟩=w.frozen? ⟨g,j,none⟩:=by
 unfold bK
 rw[fu,fu,fu,fu]
theorem GJ (w:World) (p:Addr):w.drew.cell? p=w.cell? p:=rfl
theorem Cm (w:World) (p:Addr):w.drew.frozen? p=w.frozen? p:=rfl
theorem Held.far {w w':World} {g o:Nat} {n:Nat} {x:Tm n} (h:Held w g o n x) (hc:∀j,o<=j->j<o+4->w'.cell? ⟨g,j,none⟩=w.cell? ⟨g,j,none⟩):Held w' g o n x:=by
 cases n with
 | zero=>exact h.elim
 | succ n=>
  obtain⟨k0,k1,k2,k3⟩:=h
  exact⟨(hc _ (by omega) (by omega)).trans k0,(hc _ (by omega) (by omega)).trans k1,(hc _ (by omega) (by omega)).trans k2,(hc _ (by omega) (by omega)).trans k3⟩
theorem OU (u:Int) (D:Nat) (h:1<=u/\u<=99):okB (D+1) (aF 3 u D)=true/\cn (D+1) (aF 3 u D)=Iy u:=by
 refine⟨?_,rfl⟩
 have hf:aY (D+1) (aF 3 u D)=true:=by
  rw[<-ax]
  intro a ha
  have:a=((3,u,.empty),(none,0,0)):=by simpa [nodes,aF]using ha
  subst this
  have hin:kr u 1 99=true:=by simp[kr];omega
  simp[good,hin]
 have hc:aQ (D+1) (aF 3 u D)=0:=aN.2 ⟨hf,by simp[dU,aF],by simp[sz,aF]⟩
 have hcl:av (D+1) (aF 3 u D)=true:=by simp[av,aF]
 simp only[okB,hc,Bool.and_eq_true,Bool.or_eq_true]
 refine⟨rfl,Or.inr ?_⟩
 rw[<-dQ]
 exact hcl
theorem Ny {D:Nat} {l:List (Tm D)} (h:eX D l=true) (i:Nat) {y:Tm D} (hy:okB D y=true):eX D (l.set i y)=true:=by
 simp only[eX,List.length_set,Bool.and_eq_true,decide_eq_true_eq,List.all_eq_true]at h ⊢
 refine⟨h.1,fun x hx=> ?_⟩
 rcases List.mem_or_eq_of_mem_set hx with hx|rfl
 ·exact h.2 x hx
 ·exact hy
section
variable {base db:Nat} {self:Int} {n D k:Nat} {nx:Int} {d:Dg} {w:World} {l:List (Tm (D+1))} {bg bc:Nat} {sd:List (Int×Tm (D+1+n+1))} {sp:List (Int×ByteArray×Tm (D+1+n+1))} {sv pv lv:Value}
theorem DoAt.spawn (h:DoAt base db self n D k nx d w l bg bc sd sp sv pv lv) (a:Ac (n+1)) (ha:AcIn (n+1) base w a) (hc2:aQ (n+1) a.2.1.2=0) (h2:a.1=2) (hnm:bq a.2.2.1=true) (hvr:0<=a.2.2.2/\a.2.2.2<4) (hs:1<=self/\self<=99) (hk:k<=7):
    Calls Tryz.prog 125 #[.pointer (some ⟨db,0,none⟩),PT a] w fun e w'=>∃t,e=.returned (.bool t)/\Hid (OneR base db self n D k nx d a (jQ db bg sv pv lv) w t w'):=by
 have hrow:=h.pRow
 obtain⟨va,vc,rfl⟩:=kv hrow
 obtain⟨f1,f2,f3,f4,f5,f6⟩:=h.few
 obtain⟨vr,hv⟩:∃vr:Nat,a.2.2.2=(vr:Int):=⟨a.2.2.2.toNat,by omega⟩
 have hv4:vr<4:=by omega
 have h4:=(fT h.bnd).1
 obtain⟨y,hy⟩:∃y,l[vr]? =some y:=⟨l[vr]'(by omega),List.getElem?_eq_getElem _⟩
 obtain⟨y1,y2,y3⟩:=h.row vr y hy
 have hby:d.b[vr]? =some (cn (D+1) y):=by rw[<-h.tells,List.getElem?_map,hy];rfl
 have hd:vF self a d=(qL d.b self (n+1) a.2.1.2).bind fun t=>if y.1.1=6 then some {d with b:=d.b.set vr (Iy d.next),next:=d.next+1,spawns:=d.spawns++ [(d.next,a.2.2.1,t)]}else none:=by
  have hkd:aU ⟨13,(d.b[a.2.2.2.toNat]?).getD (Iy 0)⟩=y.1.1:=by
   rw[hv,Int.toNat_natCast,hby]
   rfl
  have hn1:¬a.1=1:=by omega
  unfold vF
  rw[if_neg hn1,if_pos h2,hkd,hv,Int.toNat_natCast]
 obtain⟨hso,htd⟩:=h.told (self:=self) a.2.1.2 hc2
 have hw:=EQ (D+1+n) a.1 a.2.1.1.1.1 a.2.1.1.1.2.1 a.2.1.1.1.2.2 a.2.1.1.2.1.1 a.2.1.1.2.2.length a.2.1.1.2.1.2 a.2.1.2.1.1 a.2.1.2.1.2.1 a.2.1.2.1.2.2 a.2.1.2.2.1.1 a.2.1.2.2.2.length a.2.1.2.2.1.2 a.2.2.1 vr base db va sp.length vc _ w (lS 0 (vl (D+1) l self (n+1) a.2.1.2)) bg bc d.next y.1.1 y.1.2.1 y.1.2.2 y.2.1.1 y.2.2.length y.2.1.2 hv4 (by omega) h.lt h.own.2.2.2.1 h.own.1 h.own.2.2.2.2 (by omega) (by omega) (by
   simp only[bq,kr,Bool.and_eq_true,decide_eq_true_eq]at hnm
   omega)
  ⟨ae h.box 4,ae h.box 0,ae h.box 2,fun j=>uh h.box j,h.free⟩ hrow ⟨h.apart.1.2.1,h.apart.2.1.2.1⟩ y1 (fun W=>iq _ _ _ _ _ _ W) (h.value a.2.1.2 ha.2.2.1 hc2 hs)
 rw[<-hv]at hw
 refine hw.mono ?_
 rintro e w' ⟨rfl,hn,hyy⟩
 refine⟨_,rfl, ?_⟩
 rw[hso]at hn hyy ⊢
 cases hq:qL d.b self (n+1) a.2.1.2 with
 | none=>
  have hb:=hn (by rw[hq];rfl)
  refine⟨aj hb _,by rw[hd,hq];rfl,fun d' hd'=> ?_⟩
  rw[hd,hq]at hd'
  cases hd'
 | some t=>
  by_cases h6:y.1.1=6
  rotate_left
  ·have hb:=hn (by rw[hq];simp[h6])
   refine⟨aj hb _,by rw[hd,hq];simp[h6],fun d' hd'=> ?_⟩
   rw[hd,hq]at hd'
   simp[h6]at hd'
  ·obtain⟨z,g,c,w3,w4,w5,hzs,hzi,hzo,hr3,hk3,hg,hw4,hw5,hw'⟩:=hyy (by rw[hq];simp[h6])
   obtain⟨hz0,_,hzt⟩:=htd z t hq hzs
   have hbox3:w3.heap[db]? =_:=(hk3.block db h.lt fun q=>h.apart.1.2.1 q).trans h.box
   obtain⟨o1,o2,o3,o4,o5⟩:=h.own
   have hsz3:=hk3.size
   have hbox4:=(mP hbox3).2.1 (.slice (some ⟨g,0,none⟩) (sp.length+1) c)
   rw[<-hw4]at hbox4
   have hk4:Kee (fun b=>b=db) w3 w4:=by rw[hw4];exact aP _ _ _ _
   have hk5:Kee (fun b=>b=bg) w4 w5:=by
    rw[hw5]
    exact Kee.trans (kM w4 bg (vr*4) _ _ _ _) (aj ((Below.refl _ _).drew) _) fun _ _ e=>e
   have hbox5:w5.heap[db]? =_:=(hk5.block db (Array.getElem?_eq_some_iff.1 hbox4).1 o1).trans hbox4
   have hk6:Kee (fun b=>b=db) w5 w':=by rw[hw'];exact aP _ _ _ _
   have hbox6:=(mP hbox5).2.2.2.1 (.int .i64 (d.next+1))
   rw[<-hw']at hbox6
   have hs4:=hk4.size
   have hs5:=hk5.size
   have hs6:=hk6.size
   have hk':Kee (jQ db bg sv (.slice va sp.length vc) lv) w w':=Kee.trans (Kee.trans (Kee.trans (hk3.mono fun q _ hq=>Or.inr (Or.inr (Or.inr (Or.inl hq)))) hk4 fun q _ hq=>Or.inl hq) hk5 fun q _ hq=>Or.inr (Or.inl hq)) hk6 fun q _ hq=>Or.inl hq
   have hgn:∀q,q<w.heap.size->¬(Value.slice va sp.length vc).ownBlock=some q->g≠q:=fun q hq hne e=>by
    rcases hg with hg|hg
    ·rw[e]at hg
     exact hne hg
    ·omega
   have hW:∀q,jQ db bg sv (.slice (some ⟨g,0,none⟩) (sp.length+1) c) lv q->jQ db bg sv (.slice va sp.length vc) lv q∨w.heap.size<=q:=fun q hq=>by
    rcases hq with hq|hq|hq|hq|hq
    ·exact Or.inl (Or.inl hq)
    ·exact Or.inl (Or.inr (Or.inl hq))
    ·exact Or.inl (Or.inr (Or.inr (Or.inl hq)))
    ·have:g=q:=Option.some.inj hq
     subst this
     rcases hg with hg|hg
     ·exact Or.inl (Or.inr (Or.inr (Or.inr (Or.inl hg))))
     ·exact Or.inr hg
    ·exact Or.inl (Or.inr (Or.inr (Or.inr (Or.inr hq))))
   obtain⟨q1,q2,q3,q4⟩:=h.frame hk' hW
   refine⟨hk',by rw[hd,hq];simp[h6],fun d' hd'=> ?_⟩
   rw[hd,hq]at hd'
   have hd':some {d with b:=d.b.set vr (Iy d.next),next:=d.next+1,spawns:=d.spawns++ [(d.next,a.2.2.1,t)]}=some d':=by simpa [h6]using hd'
   obtain rfl:=Option.some.inj hd'
   have hll:∀q,lv.ownBlock=some q->q<w.heap.size:=fun q hq=>by
    obtain⟨cur,hcu⟩:=dz h.lRow q hq
    exact(Array.getElem?_eq_some_iff.1 hcu).1
   have hsl:∀q,sv.ownBlock=some q->q<w.heap.size:=fun q hq=>by
    obtain⟨cur,hcu⟩:=dz h.sRow q hq
    exact(Array.getElem?_eq_some_iff.1 hcu).1
   have hbg3:¬(Value.slice va sp.length vc).ownBlock=some bg:=h.apart.2.1.2.1
   have hzn:Off (MC base db bg sv (.slice (some ⟨g,0,none⟩) (sp.length+1) c) lv) _ z:=hzo.mono fun q hq=>by
    have:=h.lt
    refine⟨by omega,fun hw=> ?_⟩
    rcases hw with hw|hw|hw|hw|hw
    ·omega
    ·omega
    ·have:=hsl q hw
     omega
    ·exact hq.2 (Option.some.inj hw).symm
    ·have:=hll q hw
     omega
   have hpk:=OU d.next D (by omega)
   -- the row of what is bound
   have hbg4:∀j,w4.cell? ⟨bg,j,none⟩=w.cell? ⟨bg,j,none⟩:=fun j=>(hk4.cell j (by omega) (fun e=>o1 e.symm)).trans (hk3.cell j o4 hbg3)
   have hbg6:∀j,w'.cell? ⟨bg,j,none⟩=w5.cell? ⟨bg,j,none⟩:=fun j=>hk6.cell j (by omega) (fun e=>o1 e.symm)
   have hbg5:∀j,w5.cell? ⟨bg,j,none⟩=(bK w4 bg (vr*4) (.int .i64 3) (.int .i64 d.next) (.string ⟨#[]⟩) (.slice none 0 0)).cell? ⟨bg,j,none⟩:=fun j=>by
    rw[hw5,GJ]
   have hfar:∀j,j<vr*4∨vr*4+4<=j->w'.cell? ⟨bg,j,none⟩=w.cell? ⟨bg,j,none⟩:=fun j hj=>by
    rw[hbg6,hbg5,Dk j hj]
    exact hbg4 j
   have hhere:=xD (w:=w4) (g:=bg) (o:=vr*4) (.int .i64 3) (.int .i64 d.next) (.string ⟨#[]⟩) (.slice none 0 0) ⟨(hbg4 _).trans y1.1,(hbg4 _).trans y1.2.1,(hbg4 _).trans y1.2.2.1,(hbg4 _).trans y1.2.2.2⟩
   refine⟨l.set vr (aF 3 d.next D),bg,bc,sd,sp++ [(d.next,a.2.2.1,z)],sv,_,lv,⟨hbox6,⟨o1,o2,o3,by omega,by omega⟩,Ny h.bnd vr hpk.1, ?_,fun i y' hy'=> ?_,fun j=> ?_, ?_, ?_, ?_,h.sIs, ?_,q2,fun x hx=> ?_,⟨⟨h.apart.1.1, ?_,h.apart.1.2.2⟩,⟨h.apart.2.1.1, ?_,h.apart.2.1.2.2⟩,fun q=>⟨fun hq=>⟨fun e=> ?_,((h.apart.2.2 q).1 hq).2⟩,fun hq e=> ?_⟩⟩,⟨by omega,by simp;omega,by show d.links.length<=k+1;omega,by show d.next+1=nx+((sp++ [(d.next,a.2.2.1,z)]).length:Nat);simp;omega,f5,f6⟩⟩,hW⟩
   ·rw[List.map_set,h.tells,hpk.2]
   ·by_cases hi:vr=i
    ·subst hi
     rw[List.getElem?_set_self (by omega)]at hy'
     obtain rfl:=Option.some.inj hy'
     have hin:=jK D 3 d.next (by unfold bR;omega) (by unfold bR;omega) w'.heap.size w' (MC base db bg sv (.slice (some ⟨g,0,none⟩) (sp.length+1) c) lv)
     refine⟨⟨?_, ?_, ?_, ?_⟩,hin.1,hin.2⟩
     ·rw[hbg6,hbg5];exact hhere.1
     ·rw[hbg6,hbg5];exact hhere.2.1
     ·rw[hbg6,hbg5];exact hhere.2.2.1
     ·rw[hbg6,hbg5];exact hhere.2.2.2
    ·rw[List.getElem?_set_ne hi]at hy'
     exact⟨(h.row i y' hy').1.far fun j j1 j2=>hfar j (by omega),q1 i y' hy'⟩
   ·have e6:w'.frozen? ⟨bg,j,none⟩=w5.frozen? ⟨bg,j,none⟩:=by
      unfold World.frozen?
      rw[hk6.block bg (by omega) (fun e=>o1 e.symm)]
    have e5:w5.frozen? ⟨bg,j,none⟩=w4.frozen? ⟨bg,j,none⟩:=by
     rw[hw5,Cm,sH]
    have e4:w4.frozen? ⟨bg,j,none⟩=w.frozen? ⟨bg,j,none⟩:=by
     unfold World.frozen?
     rw[hk4.block bg (by omega) (fun e=>o1 e.symm),hk3.block bg o4 hbg3]
    rw[e6,e5,e4]
    exact h.free j
   ·refine aG (aG (aG (aG h.sRow hk3 fun q hq hl=>((h.apart.2.2 q).1 hq).1 hl) hk4 fun q hq e=>h.apart.1.1 (by rw[hq,e])) hk5 fun q hq e=>h.apart.2.1.1 (by rw[hq,e])) hk6 fun q hq e=>h.apart.1.1 (by rw[hq,e])
   ·have:=aG (aG (aG hr3 hk4 fun q hq e=>hgn db h.lt h.apart.1.2.1 (by
      have:g=q:=Option.some.inj hq
      rw[this,e])) hk5 fun q hq e=>hgn bg o4 hbg3 (by
      have:g=q:=Option.some.inj hq
      rw[this,e])) hk6 fun q hq e=>hgn db h.lt h.apart.1.2.1 (by
      have:g=q:=Option.some.inj hq
      rw[this,e])
    simpa using this
   ·refine aG (aG (aG (aG h.lRow hk3 fun q hq hl=>(h.apart.2.2 q).2 hl hq) hk4 fun q hq e=>h.apart.1.2.2 (by rw[hq,e])) hk5 fun q hq e=>h.apart.2.1.2.2 (by rw[hq,e])) hk6 fun q hq e=>h.apart.1.2.2 (by rw[hq,e])
   ·simp[h.pIs,hzt]
   ·rcases List.mem_append.1 hx with hx|hx
    ·exact q3 x hx
    ·obtain rfl:=List.mem_singleton.1 hx
     have hlt:=h.lt
     have hz4:=hzi.kee hk4 (hzo.mono fun q hq e=>by omega)
     have hz5:=hz4.kee hk5 (hzo.mono fun q hq e=>by omega)
     exact⟨hz0,hz5.kee hk6 (hzo.mono fun q hq e=>by omega),hzn⟩
   ·exact fun e=>hgn db h.lt h.apart.1.2.1 (Option.some.inj e)
   ·exact fun e=>hgn bg o4 hbg3 (Option.some.inj e)
   ·exact hgn q (hsl q hq) (fun z=>((h.apart.2.2 q).1 hq).1 z) (Option.some.inj e)
   ·have hgq:g=q:=Option.some.inj hq
    exact hgn q (hll q e) (fun z=>(h.apart.2.2 q).2 z e) hgq
end
def PS {n:Nat} (a:Ac (n+1)):Prop:=kS (n+1) a=true/\(a.1=1∨a.1=3->aQ (n+1) a.2.1.1=0)/\(a.1=1∨a.1=2->aQ (n+1) a.2.1.2=0)
theorem oP (self:Int) {n:Nat}:(p q:List (Ac (n+1)))->(d:Dg)->rG self (p++q) d=(rG self p d).bind (rG self q)
 | [],_,_=>rfl
 | a::p,q,d=>by
  simp only[List.cons_append,rG]
  cases vF self a d with
  | none=>rfl
  | some d'=>exact oP self p q d'
theorem JM (self:Int) {n:Nat} {l:List (Ac (n+1))} {i:Nat} {a:Ac (n+1)} (h:l[i]? =some a) (d:Dg):rG self (l.take (i+1)) d=(rG self (l.take i) d).bind (vF self a):=by
 rw[List.take_add_one,h,oP]
 congr 1
 funext x
 show rG self [a] x=vF self a x
 simp only[rG]
 cases vF self a x<;>rfl
theorem Ki (self:Int) {n:Nat} {l:List (Ac (n+1))} {i:Nat} {d:Dg} (h:rG self (l.take i) d=none):rG self l d=none:=by
 rw[<-List.take_append_drop i l,oP,h]
 rfl
section
variable {base db:Nat} {self:Int} {n D k:Nat} {nx:Int} {d:Dg} {w:World} {l:List (Tm (D+1))} {bg bc:Nat} {sd:List (Int×Tm (D+1+n+1))} {sp:List (Int×ByteArray×Tm (D+1+n+1))} {sv pv lv:Value}
theorem OneR.from {a:Ac (n+1)} {S:Nat->Prop} {W w':World} {t:Bool} (h:OneR base db self n D k nx d a S W t w') (hb:Below w.heap.size w W):OneR base db self n D k nx d a S w t w':=⟨(aj hb S).trans h.1 fun _ _ e=>e,h.2.1,fun d' hd'=>by
 obtain⟨l',bg',bc',sd',sp',sv',pv',lv',h1,h2⟩:=h.2.2 d' hd'
 refine⟨l',bg',bc',sd',sp',sv',pv',lv',h1,fun q hq=> ?_⟩
 rcases h2 q hq with e|e
 ·exact Or.inl e
 ·have:=hb.size
  exact Or.inr (by omega)⟩
theorem AcIn.later {B:Nat} {a:Ac (n+1)} {W:World} (h:AcIn (n+1) B w a) (hb:Below B w W):AcIn (n+1) B W a:=⟨h.1,h.2.1.below hb,h.2.2.1.below hb,h.2.2.2⟩
theorem DoAt.stop (h:DoAt base db self n D k nx d w l bg bc sd sp sv pv lv):Do base db self n D (k+1) nx {d with stops:=true} (jQ db bg sv pv lv) w (w.setCell ⟨db,6,none⟩ (.bool true))/\Kee (jQ db bg sv pv lv) w (w.setCell ⟨db,6,none⟩ (.bool true)):=by
 have hks:=aP w db 6 (.bool true)
 obtain⟨q1,q2,q3,q4⟩:=h.frame (w':=w.setCell ⟨db,6,none⟩ (.bool true)) (hks.mono fun q _ e=>Or.inl e) fun q hq=>Or.inl hq
 obtain⟨o1,o2,o3,o4,o5⟩:=h.own
 have hsz:=hks.size
 obtain⟨f1,f2,f3,f4⟩:=h.few
 refine⟨⟨l,bg,bc,sd,sp,sv,pv,lv,⟨(mP h.box).2.2.2.2 _,⟨o1,o2,o3,by omega,by omega⟩,h.bnd,h.tells,fun i y hy=>⟨(h.row i y hy).1.kee hks o4 (fun e=>o1 e.symm),q1 i y hy⟩,fun j=> ?_,aG h.sRow hks fun q hq e=>h.apart.1.1 (by rw[hq,e]),aG h.pRow hks fun q hq e=>h.apart.1.2.1 (by rw[hq,e]),aG h.lRow hks fun q hq e=>h.apart.1.2.2 (by rw[hq,e]),h.sIs,h.pIs,q2,q3,h.apart,⟨by omega,by omega,by show d.links.length<=k+1;omega,f4⟩⟩,fun q hq=>Or.inl hq⟩,hks.mono fun q _ e=>Or.inl e⟩
 have hf:=h.free j
 unfold World.frozen? at hf ⊢
 rw[hks.block bg o4 (fun e=>o1 e.symm)]
 exact hf
theorem DoAt.one (h:DoAt base db self n D k nx d w l bg bc sd sp sv pv lv) (a:Ac (n+1)) (ha:AcIn (n+1) base w a) (hok:PS a) (hs:1<=self/\self<=99) (hk:k<=7):
    Calls Tryz.prog 102 #[.pointer (some ⟨db,0,none⟩),PT a] w fun e w'=>∃t,e=.returned (.bool t)/\Hid (OneR base db self n D k nx d a (jQ db bg sv pv lv) w t w'):=by
 obtain⟨hb1,hb2,hb3⟩:=hok
 have ho:=h.own.2.2.2.2
 refine Jz a.1 a.2.1.1.1.1 a.2.1.1.1.2.1 a.2.1.1.1.2.2 a.2.1.1.2.1.1 a.2.1.1.2.2.length a.2.1.1.2.1.2 a.2.1.2.1.1 a.2.1.2.1.2.1 a.2.1.2.1.2.2 a.2.1.2.2.1.1 a.2.1.2.2.2.length a.2.1.2.2.1.2 a.2.2.1 a.2.2.2 db w (OneR base db self n D k nx d a (jQ db bg sv pv lv) w) h.lt ⟨d.stops,ae h.box 6,uh h.box 6⟩ ?_ ?_ ?_ ?_
 ·intro h1 W hW
  refine((h.later hW).send a (ha.later (hW.mono ho)) (hb2 (Or.inl h1)) (hb3 (Or.inl h1)) h1 hs (by omega)).mono ?_
  rintro e w' ⟨t,rfl,H⟩
  exact⟨t,rfl,H.out.from hW⟩
 ·intro h2 W hW
  have hform:bq a.2.2.1=true/\0<=a.2.2.2/\a.2.2.2<4:=by
   have hn1:¬a.1=1:=by omega
   unfold kS at hb1
   rw[if_neg hn1,if_pos h2]at hb1
   simp only[Bool.and_eq_true,decide_eq_true_eq]at hb1
   exact⟨hb1.1.1.2,hb1.1.2,hb1.2⟩
  refine((h.later hW).spawn a (ha.later (hW.mono ho)) (hb3 (Or.inr h2)) h2 hform.1 hform.2 hs hk).mono ?_
  rintro e w' ⟨t,rfl,H⟩
  exact⟨t,rfl,H.out.from hW⟩
 ·intro h3 W hW
  refine((h.later hW).link a (ha.later (hW.mono ho)) (hb2 (Or.inr h3)) h3 hs (by omega)).mono ?_
  rintro e w' ⟨t,rfl,H⟩
  exact⟨t,rfl,H.out.from hW⟩
 ·intro n1 n2 n3 W hW
  have hd:vF self a d=some {d with stops:=true}:=by
   unfold vF
   rw[if_neg n1,if_neg n2,if_neg n3]
  obtain⟨s1,s2⟩:=(h.later hW).stop
  refine OneR.from ⟨s2,by rw[hd];rfl,fun d' hd'=> ?_⟩ hW
  rw[hd]at hd'
  obtain rfl:=Option.some.inj hd'
  exact s1
theorem DoAt.all (h:DoAt base db self n D 0 nx d w l bg bc sd sp sv pv lv) (ac:List (Ac (n+1))) (la:Option Addr) (lc:Nat) (ha:Lay base w 11 (eG (n+1)) (AcIn (n+1) base w) la ac) (hok:∀a∈ac,PS a) (h8:ac.length<=8) (hs:1<=self/\self<=99):
    Calls Tryz.prog 82 #[.pointer (some ⟨db,0,none⟩),.slice la ac.length lc] w fun e w'=>∃t,e=.returned (.bool t)/\Hid (Kee (jQ db bg sv pv lv) w w'/\t=(rG self ac d).isSome/\∀d',rG self ac d=some d'->Do base db self n D 8 nx d' (jQ db bg sv pv lv) w w'):=by
 have ho:=h.own.2.2.2.2
 have hlow:∀{W:World},Kee (jQ db bg sv pv lv) w W->Below base w W:=fun hk=>hk.below ho fun b hb q=>by
  have:=h.high b q
  omega
 refine(Jw ac la ac.length lc db w (fun i W=>Kee (jQ db bg sv pv lv) w W/\∃d',rG self (ac.take i) d=some d'/\Do base db self n D i nx d' (jQ db bg sv pv lv) w W) (fun W=>Kee (jQ db bg sv pv lv) w W/\rG self ac d=none) (by omega) rfl ?_ ?_ ?_ ?_).mono ?_
 ·rintro i a W hi ⟨hk,_⟩
  rcases ha with e|⟨b,o,e,hlt,hc⟩
  ·rw[e]at hi
   simp at hi
  ·exact⟨b,o,e,fun j u hj=>((hlow hk).cell (p:=⟨b,o+i*11+j,none⟩) hlt).trans ((hc i a hi).1 j u hj)⟩
 ·rintro i W W' ⟨hk,d',h1,l',bg',bc',sd',sp',sv',pv',lv',h2,h3⟩ hW
  exact⟨hk.trans (aj hW (fun _=>False)) fun _ _ e=>e.elim,d',h1,l',bg',bc',sd',sp',sv',pv',lv',h2.later hW,h3⟩
 ·rintro i a W hi ⟨hk,d',h1,l',bg',bc',sd',sp',sv',pv',lv',h2,h3⟩
  have hil:=(List.getElem?_eq_some_iff.1 hi).1
  have hin:AcIn (n+1) base W a:=by
   rcases ha with e|⟨b,o,e,hlt,hc⟩
   ·rw[e]at hi
    simp at hi
   ·exact((hc i a hi).2).later (hlow hk)
  refine(h2.one a hin (hok a (List.mem_of_getElem? hi)) hs (by omega)).mono ?_
  rintro e w' ⟨t,rfl,H⟩
  obtain⟨r1,r2,r3⟩:=H.out
  have ht:=JM self hi d
  rw[h1]at ht
  simp only[Option.bind_some]at ht
  have hk':Kee (jQ db bg sv pv lv) w w':=hk.trans r1 fun b hb q=>by
   rcases h3 b q with e|e
   ·exact e
   ·omega
  refine⟨t,rfl,fun htt=>⟨hk', ?_⟩,fun htf=>⟨hk', ?_⟩⟩
  ·rw[htt]at r2
   obtain⟨d2,hd2⟩:=Option.isSome_iff_exists.1 r2.symm
   obtain⟨l2,bg2,bc2,sd2,sp2,sv2,pv2,lv2,k1,k2⟩:=r3 d2 hd2
   refine⟨d2,by rw[ht,hd2],l2,bg2,bc2,sd2,sp2,sv2,pv2,lv2,k1,fun q hq=> ?_⟩
   rcases k2 q hq with e|e
   ·exact h3 q e
   ·have:=hk.size
    exact Or.inr (by omega)
  ·rw[htf]at r2
   refine Ki self (i:=i+1) ?_
   rw[ht]
   exact Option.isNone_iff_eq_none.1 (by rw[<-Option.not_isSome,<-r2];rfl)
 ·exact⟨Kee.refl _ _,d,rfl,l,bg,bc,sd,sp,sv,pv,lv,h,fun q hq=>Or.inl hq⟩
 ·rintro e w' ⟨t,rfl,H⟩
  refine⟨t,rfl, ?_⟩
  cases t
  ·obtain⟨r1,r2⟩:=H.out.2 rfl
   refine⟨r1,by rw[r2];rfl,fun d' hd'=> ?_⟩
   rw[r2]at hd'
   cases hd'
  ·obtain⟨r1,d',r2,r3⟩:=H.out.1 rfl
   rw[List.take_of_length_le (Nat.le_refl _)]at r2
   refine⟨r1,by rw[r2];rfl,fun d2 hd2=> ?_⟩
   rw[r2]at hd2
   obtain rfl:=Option.some.inj hd2
   obtain⟨l',bg',bc',sd',sp',sv',pv',lv',h2,h3⟩:=r3
   exact⟨l',bg',bc',sd',sp',sv',pv',lv',h2.more h8,h3⟩
end
theorem Fz (N:Nat):aQ (N+1) (aF 1 0 N)=0/\av (N+1) (aF 1 0 N)=true/\sz (N+1) (aF 1 0 N)=0:=by
 have hf:aY (N+1) (aF 1 0 N)=true:=by
  rw[<-ax]
  intro a ha
  have:a=((1,0,.empty),(none,0,0)):=by simpa [nodes,aF]using ha
  subst this
  simp[good,kr]
 exact⟨aN.2 ⟨hf,by simp[dU,aF],by simp[sz,aF]⟩,by simp[av,aF],by simp[sz,aF]⟩
theorem CK {ws:List Wd} {nm:List ByteArray} {N:Nat}:Stands ws nm (N+1) (aF 1 0 N) (1,0):=⟨fun h=>by simp[aF]at h,fun h=>by simp[aF]at h,fun _ _=>rfl⟩
theorem PHas.numb {N:Nat} {ws:List Wd} {nm:List ByteArray} {room:Int} {sv:Wd} {us:List Wd} {s:Tm (N+1)} {ts:List (Tm (N+1))} (h:PHas (N+1) ws nm room (sv::us) (s::ts)):PHas (N+1) ws nm room ((1,0)::us) (aF 1 0 N::ts):=by
 obtain⟨k1,k2,k3,k4,k5,k6,k7,k8⟩:=h
 obtain⟨n1,n2,n3⟩:=Fz N
 refine⟨⟨by simpa using k1.1,fun i v y hv hy=> ?_⟩, ?_,fun y hy=> ?_, ?_,k5,k6,k7,k8⟩
 ·cases i with
  | zero=>
   simp only[List.getElem?_cons_zero,Option.some.injEq]at hv hy
   subst hv hy
   exact CK
  | succ i=>exact k1.2 (i+1) v y (by simpa using hv) (by simpa using hy)
 ·simp only[List.flatMap_cons]at k2 ⊢
  rw[kK (by decide),List.nil_append]
  exact(List.nodup_append.1 k2).2.1
 ·rcases List.mem_cons.1 hy with rfl|hy
  ·exact⟨n1,n2⟩
  ·exact k3 y (List.mem_cons_of_mem _ hy)
 ·simp only[List.map_cons,List.sum_cons]at k4 ⊢
  have:=(dI (N+1) s).1
  omega
theorem PHas.turned {N:Nat} {ws:List Wd} {nm:List ByteArray} {room:Int} {sv v:Wd} {vs:List Wd} {s x:Tm (N+1)} {ms:List (Tm (N+1))} (h:PHas (N+1) ws nm room (sv::vs++ [v]) (s::ms++ [x])) (hl:vs.length=ms.length):PHas (N+1) ws nm room (v::vs) (x::ms):=by
 obtain⟨k1,k2,k3,k4,k5,k6,k7,k8⟩:=h
 refine⟨⟨by simp[hl],fun i u y hu hy=> ?_⟩, ?_,fun y hy=>k3 y ?_, ?_,k5,k6,k7,k8⟩
 ·cases i with
  | zero=>
   simp only[List.getElem?_cons_zero,Option.some.injEq]at hu hy
   subst hu hy
   exact k1.2 (vs.length+1) v x (by simp) (by simp[hl])
  | succ i=>
   simp only[List.getElem?_cons_succ]at hu hy
   have h1:=(List.getElem?_eq_some_iff.1 hu).1
   have h2:=(List.getElem?_eq_some_iff.1 hy).1
   exact k1.2 (i+1) u y (by rw[List.cons_append,List.getElem?_cons_succ,List.getElem?_append_left h1];exact hu) (by rw[List.cons_append,List.getElem?_cons_succ,List.getElem?_append_left h2];exact hy)
 ·simp only[List.cons_append,List.flatMap_cons,List.flatMap_append,List.flatMap_nil,List.append_nil]at k2 ⊢
  obtain⟨_,j2,_⟩:=List.nodup_append.1 k2
  obtain⟨a1,a2,a3⟩:=List.nodup_append.1 j2
  exact List.nodup_append.2 ⟨a2,a1,fun a ha b hb e=>a3 b hb a ha e.symm⟩
 ·rcases List.mem_cons.1 hy with rfl|hy
  ·simp
  ·simp[hy]
 ·simp only[List.cons_append,List.map_cons,List.map_append,List.sum_cons,List.sum_append,List.map_nil,List.sum_nil]at k4 ⊢
  have:=(dI (N+1) s).1
  omega
theorem pV (w:World) (pb:Nat) (a b:Int):Keep (fun q=>q=pb) w (ui w pb a b):=(aI w pb 5 (.int .i64 a)).trans (aI _ pb 6 (.int .i64 b)) fun _ _ e=>e
theorem Lp (w:World) (pb:Nat) (a b:Int):(ui w pb a b).heap.size=w.heap.size:=by simp[ui,World.setCell]
theorem gm {S:Nat->Prop} {w w':World} (h:Keep S w w'):Kee S w w':=⟨h.os,h.tape,h.output,h.size,h.block⟩
theorem ic {S:Nat->Prop} {w w':World} (h:Kee S w w'):Keep S w w':=⟨h.os,h.tape,h.output,h.size,h.block⟩
section
variable {base pb:Nat} {name:ByteArray} {room:Int} {N:Nat} {s:Tm (N+1)} {ms:List (Tm (N+1))} {xs:List (Wd×Tm (N+1))} {nk:Nat} {M:Nat->Prop} {w:World} {ws:List Wd} {nm:List ByteArray} {sv:Wd} {vs:List Wd} {ma:Option Addr} {mc:Nat} {Mh:Nat->Prop}
theorem MailAt.keptBox {v:Wd} (h:MailAt Mh ma vs mc w) (hpb:Mh pb):MailAt Mh ma vs mc (ui w pb v.1 v.2):=by
 rcases h with e|⟨g,mo,cur,e1,e2,e3,e4⟩
 ·exact Or.inl e
 ·exact Or.inr ⟨g,mo,cur,e1,e2,((pV w pb v.1 v.2).block g (Array.getElem?_eq_some_iff.1 e3).1 fun e=>e2 (by rw[e];exact hpb)).trans e3,e4⟩
theorem HpAt.word {mv:Value} {v:Wd} (h:HpAt base (PL pb name sv mv) room ws nm M w):HpAt base (PL pb name v mv) room ws nm M (ui w pb v.1 v.2):=h.turn (pV w pb v.1 v.2) fun tv lv mp hc=>by
 unfold ui World.setCell
 simp[Array.getElem?_modify,hc]
theorem PrAt.numb (h:PrAt base pb name room (N+1) s ms [] nk M w ws nm sv vs ma mc Mh):PrAt base pb name room (N+1) (aF 1 0 N) ms [] nk M (ui w pb 1 0) ws nm (1,0) vs ma mc Mh/\Keep M w (ui w pb 1 0):=by
 obtain⟨hpb,hpl⟩:=h.box0
 have hh:=h.has
 simp only[List.map_nil,List.append_nil]at hh
 refine⟨⟨h.heap.word (v:=(1,0)),h.mail.keptBox (v:=(1,0)) hpb, ?_,h.len,h.names,h.inM,h.mailM⟩,(pV w pb 1 0).mono fun b e=> ?_⟩
 ·simp only[List.map_nil,List.append_nil]
  exact hh.numb
 ·rw[e]
  exact h.inM pb hpb
theorem PrAt.turned {v:Wd} {x:Tm (N+1)} (h:PrAt base pb name room (N+1) s ms [(v,x)] nk M w ws nm sv vs ma mc Mh):PrAt base pb name room (N+1) x ms [] nk M (ui w pb v.1 v.2) ws nm v vs ma mc Mh/\Keep M w (ui w pb v.1 v.2):=by
 obtain⟨hpb,hpl⟩:=h.box0
 have hh:=h.has
 simp only[List.map_cons,List.map_nil]at hh
 refine⟨⟨h.heap.word,h.mail.keptBox hpb, ?_,h.len,h.names,h.inM,h.mailM⟩,(pV w pb v.1 v.2).mono fun b e=> ?_⟩
 ·simp only[List.map_nil,List.append_nil]
  exact hh.turned h.len
 ·rw[e]
  exact h.inM pb hpb
theorem PrAt.cells56 (h:PrAt base pb name room (N+1) s ms xs nk M w ws nm sv vs ma mc Mh):(∃a,w.cell? ⟨pb,5,none⟩=some (.int .i64 a))/\(∃a,w.cell? ⟨pb,6,none⟩=some (.int .i64 a))/\∀j,w.frozen? ⟨pb,j,none⟩=false:=by
 obtain⟨tv,lv,mv,h1,_⟩:=h.heap.box
 obtain⟨_,c5,c6,_,c8,_⟩:=PL.cells h1
 exact⟨⟨_,c5⟩,⟨_,c6⟩,c8⟩
def Qm (base pb:Nat) (name:ByteArray) (room:Int) (N:Nat) (s:Tm (N+1)) (ms:List (Tm (N+1))) (x:Tm (N+1)) (nk:Nat) (M:Nat->Prop) (w:World) (t:Bool) (w':World):Prop:=
 t=decide ((ms.map (sz (N+1))).sum+sz (N+1) x<=room)/\Keep M w w'/\∃s' ws' nm' sv' vs' ma' mc' Mh',PrAt base pb name room (N+1) s' ms [] (nk+402) (fun b=>M b∨w.heap.size<=b) w' ws' nm' sv' vs' ma' mc' Mh'/\(t=true->s'=x)/\(t=false->same (N+1) s' (N+1) s=true)
theorem yf {x:Tm (N+1)} {ms:List (Tm (N+1))} (hc:aQ (N+1) x=0) (hcl:av (N+1) x=true):rX (N+1) x room (aF 1 0 N::ms)=if (ms.map (sz (N+1))).sum+sz (N+1) x<=room then 0 else 6:=by
 unfold rX
 rw[if_neg (by simp[hc]),if_neg (by simp[hcl])]
 simp only[List.map_cons,List.sum_cons,(Fz N).2.2,Int.zero_add]
theorem PrAt.become (h:PrAt base pb name room (N+1) s ms [] nk M w ws nm sv vs ma mc Mh) (x:Tm (N+1)) (hx:In w.heap.size w (N+1) x) (ho:Off (fun b=>¬M b) (N+1) x) (hc:aQ (N+1) x=0) (hcl:av (N+1) x=true) (hM:∀b,M b->b<w.heap.size) (hnk:nk<=48000) (h20:ms.length<=999) (hbw:base<=w.heap.size):
    Calls Tryz.prog 84 #[.pointer (some ⟨pb,0,none⟩),.agg #[.int .i64 x.1.1,.int .i64 x.1.2.1,.string x.1.2.2,.slice x.2.1.1 x.2.2.length x.2.1.2]] w fun e w'=>∃t,e=.returned (.bool t)/\Hid (Qm base pb name room N s ms x nk M w t w'):=by
 obtain⟨hpb,hpl⟩:=h.box0
 have hMp:M pb:=h.inM pb hpb
 have hfr:=h.front
 have hsc:=hfr.2.2.1 s (by simp)
 have hsum:(ms.map (sz (N+1))).sum+sz (N+1) s<=room:=by
  have h4:=hfr.2.2.2.1
  have h5:=hfr.2.2.2.2.1
  simp only[List.map_cons,List.sum_cons]at h4
  omega
 refine AV x.1.1 x.1.2.1 x.1.2.2 x.2.1.1 x.2.2.length x.2.1.2 pb w (fun s0 s1 s2 sa sl sc W=>∃y0:Tm (N+1),(s0=y0.1.1/\s1=y0.1.2.1/\s2=y0.1.2.2/\sa=y0.2.1.1/\sl=y0.2.2.length/\sc=y0.2.1.2)/\In W.heap.size W (N+1) y0/\Off (fun q=>w.heap.size<=q) (N+1) y0/\same (N+1) y0 (N+1) s=true) (fun _ _ _ _=>True) (Qm base pb name room N s ms x nk M w) ?_ ?_ ?_
 ·intro W hW
  refine((h.later hW).state (by omega)).mono ?_
  rintro e w' ⟨y,rfl,HY⟩
  exact⟨_,_,_,_,_,_,rfl,HY.out.1,y,⟨rfl,rfl,rfl,rfl,rfl,rfl⟩,HY.out.2.1,HY.out.2.2.1.mono fun q hq=>by have:=hW.size;omega,HY.out.2.2.2⟩
 ·intro W hW
  obtain⟨a,b,c⟩:=(h.later hW).cells56
  exact⟨a,b,c,hpl⟩
 ·rintro s0 s1 s2 sa sl sc W0 W1 q0 q1 ⟨y0,⟨rfl,rfl,rfl,rfl,rfl,rfl⟩,hy1,hy2,hy3⟩ hb01 hb1 hq0 hq1 hB
  have hs1:=hb1.size
  obtain⟨hn,hkn⟩:=(h.later hb1).numb
  have hz:=Lp W1 pb 1 0
  have hk1:Keep M w (ui W1 pb 1 0):=(aD hb1 M).trans hkn fun _ _ e=>e
  have hx1:In (ui W1 pb 1 0).heap.size (ui W1 pb 1 0) (N+1) x:=hx.kee (gm hk1) ho
  have hpt:=hn.put x hx1 ho (dS hc) (fun b hb=>by have:=hM b hb;omega) (by omega) h20 (by omega)
  refine hpt.mono ?_
  rintro e w' ⟨v,rfl,H⟩
  obtain⟨ws',nm',sv',vs',ma',mc',Mh',hp,hkp⟩:=H.out
  have he:=yf (room:=room) (ms:=ms) hc hcl
  have hkw:Keep M w w':=hk1.trans hkp fun _ _ e=>e
  have hsp:=hkp.size
  refine⟨v,_,rfl,⟨?_, ?_,hp.cells56.1,hp.cells56.2.1,hp.cells56.2.2⟩,trivial, ?_, ?_⟩
  ·exact(hkp.block q0 (Array.getElem?_eq_some_iff.1 hB.1).1 fun q=>by have:=hM _ q;omega).trans hB.1
  ·exact(hkp.block q1 (Array.getElem?_eq_some_iff.1 hB.2.1).1 fun q=>by have:=hM _ q;omega).trans hB.2.1
  ·intro h0 W hW
   rw[if_pos h0]at hp
   obtain⟨ht,hkt⟩:=(hp.later hW).turned
   rw[he]at h0
   have hle:(ms.map (sz (N+1))).sum+sz (N+1) x<=room:=by
    by_cases q:(ms.map (sz (N+1))).sum+sz (N+1) x<=room
    ·exact q
    ·rw[if_neg q]at h0
     cases h0
   refine⟨by simp[hle],(hkw.trans (aD hW M) fun _ _ e=>e).trans hkt fun b hb q=> ?_,x,ws',nm',v,vs',ma',mc',Mh',ht.mono (fun b q=> ?_) (by omega),fun _=>rfl,fun q=>by cases q⟩
   ·rcases q with q|q
    ·exact q
    ·omega
   ·rcases q with q|q
    ·exact Or.inl q
    ·exact Or.inr (by omega)
  ·intro h0 W q2 hW hq2 hq2W
   rw[if_neg h0]at hp
   have hlt:¬(ms.map (sz (N+1))).sum+sz (N+1) x<=room:=fun q=>h0 (by rw[he,if_pos q])
   have hp2:=(hp.inside.later hW)
   have hsW:=hW.size
   have hyB:=In.offB hy2 hy1
   have hs01:=hb01.size
   have hyc:aQ (N+1) y0=0/\av (N+1) y0=true:=⟨(aX hy3).trans hsc.1,(bD _ _ _ _ hy3).trans hsc.2⟩
   have hy4:In W1.heap.size W1 (N+1) y0:=(hy1.below hb01).mono hs01
   have hyM:Off (fun b=>¬M b) (N+1) y0:=hy2.mono fun q hq z=>by have:=hM q z;omega
   have hy5:In w'.heap.size w' (N+1) y0:=(hy4.kee (gm hkn) hyM).kee (gm hkp) hyM
   have hy6:In W.heap.size W (N+1) y0:=(hy5.below hW).mono hsW
   have he2:=yf (room:=room) (ms:=ms) hyc.1 hyc.2
   have hsz:=jX _ _ _ _ hy3
   rw[if_pos (by rw[hsz];exact hsum)]at he2
   refine(hp2.put y0 hy6 (hyB.mono fun q hq z=> ?_) (dS hyc.1) (fun b hb=>by have:=hb.2;omega) (by omega) h20 (by omega)).mono ?_
   ·rcases z.1 with z|z
    ·have:=hM q z
     omega
    ·omega
   ·rintro e w'' ⟨v2,rfl,H2⟩
    obtain⟨ws2,nm2,sv2,vs2,ma2,mc2,Mh2,hr,hkr⟩:=H2.out
    rw[if_pos he2]at hr
    refine⟨v2,_,rfl,fun ob hob=>(hkr.block q2 hq2W fun q=>by have:=q.2;omega).trans hob,hr.cells56,fun W' hW'=> ?_⟩
    have hr2:=hr.kept (ic hW') fun b q _ e=>by
     rcases q with q|q
     ·have:=q.2
      omega
     ·omega
    obtain⟨ht,hkt⟩:=hr2.turned
    refine⟨by simp[hlt], ?_,y0,ws2,nm2,v2,vs2,ma2,mc2,Mh2,ht.mono (fun b q=> ?_) (by omega),fun q=>(by cases q),fun _=>hy3⟩
    ·refine((((hkw.trans (aD hW M) fun _ _ e=>e).trans hkr fun b hb q=> ?_).trans (ic hW') fun b hb q=> ?_)).trans hkt fun b hb q=> ?_
     ·rcases q.1 with q|q
      ·exact q
      ·omega
     ·omega
     ·rcases q with q|q
      ·rcases q.1 with q|q
       ·exact q
       ·omega
      ·omega
    ·rcases q with q|q
     ·rcases q.1 with q|q
      ·exact Or.inl q
      ·exact Or.inr (by omega)
     ·exact Or.inr (by omega)
end
end Go.Proofs.YtmbjgiaebneodaaGreat
