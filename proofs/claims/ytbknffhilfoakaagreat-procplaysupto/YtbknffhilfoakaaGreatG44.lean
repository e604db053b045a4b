/- What is proved here: plain facts and contracts that the claimed theorem stands on. No condition but those that each names. -/
import Derived.ProofKit
import Derived.OpenShut
import Derived.JoinedCond
import Derived.Test.YtbknffhilfoakaaGreatG19
namespace Go.Proofs.YtbknffhilfoakaaGreat
open Go.ChangeShapes Go.WideShapes Go.ChangeAt Go.RowKit
set_option maxRecDepth 100000
set_option maxHeartbeats 1000000
def wt:(n:Nat)->Tm n->Nat
 | 0,_=>1
 | n+1,x=>1+x.1.2.2.size+(x.2.2.map fun y=>wt n y).sum
theorem mZ:(n:Nat)->(x:Tm n)->(nodes n x).length<=wt n x
 | 0,_=>by simp[nodes,wt]
 | n+1,x=>by
  have key:∀l:List (Tm n),(l.flatMap fun y=>nodes n y).length<=(l.map fun y=>wt n y).sum:=by
   intro l
   induction l with
   | nil=>simp
   | cons y l ih=>
    have:=mZ n y
    simp only[List.flatMap_cons,List.length_append,List.map_cons,List.sum_cons]
    omega
  have:=key x.2.2
  simp only[nodes,wt,List.length_cons]
  omega
theorem own:ownKnob Tryz.prog.godebug=none:=by kernel_rfl
theorem laidOut:laidOutB Tryz.prog=true:=by kernel_rfl
theorem jI:Tryz.prog.cellsOf 25=4:=by kernel_rfl
theorem sM:Tryz.prog.cellsOf 3=1:=by kernel_rfl
theorem kT:Tryz.prog.cellsOf 9=1:=by kernel_rfl
theorem AR:Tryz.prog.cellsOf 23=1:=by kernel_rfl
theorem vK {α:Type} {P:Nat->α->Prop}:(len:Nat)->(∀i,i<len->∃y,P i y)->∃l:List α,l.length=len/\∀i y,l[i]? =some y->P i y
 | 0,_=>⟨[],rfl,fun i y h=>by simp at h⟩
 | len+1,h=>by
  obtain⟨l,hl,hp⟩:=vK len (fun i hi=>h i (by omega))
  obtain⟨z,hz⟩:=h len (by omega)
  refine⟨l++ [z],by simp[hl],fun i y hy=> ?_⟩
  by_cases hi:i<l.length
  ·rw[List.getElem?_append_left hi]at hy
   exact hp i y hy
  ·rw[List.getElem?_append_right (by omega)]at hy
   have h0:i-l.length=0:=by
    by_cases h0:i-l.length=0
    ·exact h0
    ·rw[List.getElem?_eq_none (by simp;omega)]at hy;cases hy
   rw[h0]at hy
   have e1:z=y:=by simpa using hy
   have e2:i=len:=by omega
   rw[e2,<-e1]
   exact hz
theorem I4 {H:Type} {n:Nat}:(p:List (Tm n))->(es:List (DataW H))->(∀(i:Nat) (y:Tm n) (e:DataW H),p[i]? =some y->es[i]? =some e->wt n y<=Rows.uptoBulk e)->p.length=es.length->(p.map fun y=>wt n y).sum<=Rows.uptoBulkAll es
 | [],es,_,h=>by simp
 | y::p,[],_,h=>by simp at h
 | y::p,e::es,hp,h=>by
  have h0:=hp 0 y e (by simp) (by simp)
  have h1:=I4 p es (fun i y' e' hy he=>hp (i+1) y' e' (by simpa using hy) (by simpa using he)) (by simpa using h)
  simp only[List.map_cons,List.sum_cons,Rows.uptoBulkAll]
  omega
theorem add_add (b o i j:Nat):((⟨b,o,none⟩:Addr).add i).add j=⟨b,o+i+j,none⟩:=by
 unfold Addr.add
 split<;>split<;>simp_all
theorem uq {w:World} {a:Addr} {v:Value} (h:w.cell? ((a.add 0).add 0)=some v):a=⟨a.block,a.off,none⟩:=by
 have e:(a.add 0).add 0=a:=rfl
 rw[e]at h
 unfold World.cell? at h
 split at h
 ·split at h
  ·cases h
  ·rename_i hs
   cases a with
   | mk b o s=>cases s with
    | none=>rfl
    | some q=>simp at hs
 ·cases h
theorem xQ {k:Int} (h:(Lit.int .i64 k).wf=true):dZ k:=by
 have: -9223372036854775808<=k/\k<=9223372036854775807:=by simpa [Lit.wf,IntKind.min,IntKind.max,IntKind.signed,IntKind.bits]using h
 exact this
theorem Cb {H:Type} (enc:TypeId×Value->H) (w:World) (sp:Nat->Bool):(n f:Nat)->f<=2*n+1->(cs:List Value)->(x:DataW H×List MemPlace)->
    DataW.trod enc Tryz.prog w 0 sp true f 25 cs=some x->
    ∃t:Tm (n+1),cs=[.int .i64 t.1.1,.int .i64 t.1.2.1,.string t.1.2.2,.slice t.2.1.1 t.2.2.length t.2.1.2]/\In w.heap.size w (n+1) t/\wt (n+1) t<=Rows.uptoBulk x.1:=by
 intro n
 induction n with
 | zero=>
  intro f hf cs x h
  obtain⟨xs,m,rfl,rfl,hl,hx,hg⟩:=DataW.trod_struct Tryz.underlying25 h
  have h0:DataW.trod enc Tryz.prog w 0 sp true m 3 ((cs.drop 0).take (Tryz.prog.cellsOf 3))=xs[0]? :=hg 0 _ rfl
  obtain rfl:m=0:=by omega
  have hx':xs.length=4:=hx
  rw[List.getElem?_eq_getElem (by omega)]at h0
  cases h0
 | succ n ih=>
  intro f hf cs x h
  obtain⟨xs,m,rfl,rfl,hl,hx,hg⟩:=DataW.trod_struct Tryz.underlying25 h
  have h0:DataW.trod enc Tryz.prog w 0 sp true m 3 ((cs.drop 0).take (Tryz.prog.cellsOf 3))=xs[0]? :=hg 0 _ rfl
  have h1:DataW.trod enc Tryz.prog w 0 sp true m 3 ((cs.drop 1).take (Tryz.prog.cellsOf 3))=xs[1]? :=hg 1 _ rfl
  have h2:DataW.trod enc Tryz.prog w 0 sp true m 9 ((cs.drop 2).take (Tryz.prog.cellsOf 9))=xs[2]? :=hg 2 _ rfl
  have h3:DataW.trod enc Tryz.prog w 0 sp true m 23 ((cs.drop 3).take (Tryz.prog.cellsOf 23))=xs[3]? :=hg 3 _ rfl
  rw[sM]at h0 h1
  rw[kT]at h2
  rw[AR]at h3
  rw[jI]at hl
  obtain⟨c0,c1,c2,c3,rfl⟩:∃c0 c1 c2 c3,cs=[c0,c1,c2,c3]:=by
   match cs,hl with
   | [c0,c1,c2,c3],_=>exact⟨c0,c1,c2,c3,rfl⟩
  obtain⟨y0,y1,y2,y3,rfl⟩:∃y0 y1 y2 y3,xs=[y0,y1,y2,y3]:=by
   match xs,hx with
   | [y0,y1,y2,y3],_=>exact⟨y0,y1,y2,y3,rfl⟩
  obtain⟨k,e0,z0,w0⟩:=DataW.trod_int Tryz.underlying3 (x:=y0) (by simpa using h0)
  obtain⟨u,e1,z1,w1⟩:=DataW.trod_int Tryz.underlying3 (x:=y1) (by simpa using h1)
  obtain⟨s,e2,z2,w2⟩:=DataW.trod_string Tryz.underlying9 (x:=y2) (by simpa using h2)
  have h3':DataW.trod enc Tryz.prog w 0 sp true m 23 [c3]=some y3:=by simpa using h3
  simp at e0 e1 e2
  subst e0 e1 e2 z0 z1 z2
  rcases DataW.trod_slice Tryz.underlying23 h3' with⟨e3,rfl⟩|⟨a,len,cap,elems,rest,m',rfl,e3,rfl,_,hlc,hcm,hel,hat,_,_⟩
  ·simp at e3
   subst e3
   refine⟨((k,u,s),(none,0),[]),rfl,⟨⟨xQ w0,xQ w1,w2,Nat.le_refl _,Nat.zero_le _⟩,Or.inl rfl⟩, ?_⟩
   have es:s.data.toList.length=s.size:=by rw[Array.length_toList];rfl
   simp only[wt,Rows.uptoBulk,Rows.uptoBulkAll,List.map_cons,List.map_nil,List.sum_nil]
   omega
  ·simp at e3
   subst e3
   simp only[jI]at hat
   have key:∀i,i<len->∃t:Tm (n+1),(∃b o,a=⟨b,o,none⟩/\b<w.heap.size/\Held w b (o+i*4) (n+1) t)/\In w.heap.size w (n+1) t/\∀e,(elems.map (·.1))[i]? =some e->wt (n+1) t<=Rows.uptoBulk e:=by
    intro i hi
    have hi':=hat i hi
    have hi0:=hat 0 (by omega)
    rw[List.getElem?_eq_getElem (by omega)]at hi' hi0
    obtain⟨cs',hcs,htr⟩:=Option.bind_eq_some_iff.1 hi'
    obtain⟨cs0,hcs0,htr0⟩:=Option.bind_eq_some_iff.1 hi0
    obtain⟨_,hlen,hcell⟩:=World.cells?_some hcs
    obtain⟨_,hlen0,hcell0⟩:=World.cells?_some hcs0
    obtain⟨t,rfl,hin,hb⟩:=ih m' (by omega) cs' _ htr
    have ha:=uq (w:=w) (a:=a) (v:=cs0[0]'(by omega)) (by have:=hcell0 0 (by omega);rw[List.getElem?_eq_getElem (by omega)]at this;simpa using this)
    have hadd:∀j,(a.add (i*4)).add j=⟨a.block,a.off+i*4+j,none⟩:=fun j=>by
     have:=add_add a.block a.off (i*4) j
     rw[<-ha]at this
     exact this
    have c0:=hcell 0 (by omega)
    have c1:=hcell 1 (by omega)
    have c2:=hcell 2 (by omega)
    have c3:=hcell 3 (by omega)
    rw[hadd]at c0 c1 c2 c3
    simp at c0 c1 c2 c3
    refine⟨t,⟨a.block,a.off,ha,World.block_lt_of_cell? w ⟨a.block,a.off+i*4,none⟩ c0,c0,c1,c2,c3⟩,hin,fun e he=> ?_⟩
    rw[List.getElem?_map,List.getElem?_eq_getElem (by omega)]at he
    have:(elems[i]).1=e:=by simpa using he
    rw[<-this]
    exact hb
   obtain⟨p,hpl,hp⟩:=vK len key
   refine⟨((k,u,s),(some a,cap),p),by simp[hpl],⟨⟨xQ w0,xQ w1,w2,by simp only;omega,hcm⟩, ?_⟩, ?_⟩
   ·rcases Nat.eq_zero_or_pos len with h|h
    ·exact Or.inl (List.eq_nil_of_length_eq_zero (hpl.trans h))
    ·obtain⟨⟨b,o,rfl,hb,_⟩,_,_⟩:=hp 0 (p[0]'(by rw[hpl];exact h)) (List.getElem?_eq_getElem (by rw[hpl];exact h))
     refine Or.inr ⟨b,o,rfl,hb,fun i y hy=> ?_⟩
     obtain⟨⟨b',o',e,_,hh⟩,hin,_⟩:=hp i y hy
     simp at e
     obtain⟨rfl,rfl⟩:=e
     exact⟨hh,hin⟩
   ·have hs:=I4 p (elems.map (·.1)) (fun i y e hy he=>(hp i y hy).2.2 e he) (by simp;omega)
    have es:s.data.toList.length=s.size:=by rw[Array.length_toList];rfl
    simp only[wt,Rows.uptoBulk,Rows.uptoBulkAll,List.map_cons,List.map_nil]at hs ⊢
    omega
theorem El {H:Type} {enc:TypeId×Value->H} {W:World} {r:Reach} {b0:Nat} {v:Value} {d:DataW H} {p:List MemPlace} (hv:Value.okWide Tryz.prog W r b0 25 v)
    (h:DataW.Trod enc Tryz.prog W 0 (fun _=>true) true 25 v d p):∃n,∃t:Tm (n+1),v=val (n+1) t/\In W.heap.size W (n+1) t/\wt (n+1) t<=Rows.uptoBulk d:=by
 obtain⟨cs,rfl,_⟩:=okWide_struct Tryz.underlying25 hv
 obtain⟨f,hf⟩:=h
 obtain⟨t,e,hin,hb⟩:=Cb enc W (fun _=>true) f f (by omega) _ _ hf
 refine⟨f,t, ?_,hin,hb⟩
 have:cs= #[.int .i64 t.1.1,.int .i64 t.1.2.1,.string t.1.2.2,.slice t.2.1.1 t.2.2.length t.2.1.2]:=by
  simp[Value.cells]at e
  exact Array.toList_inj.1 e
 rw[this]
 rfl
def EP (n:Nat) (a:Ac n):Nat:=wt n a.2.1.1+wt n a.2.1.2+a.2.2.1.size+1
def Co (n:Nat) (c:Cl n):Nat:=wt n c.1.1+wt n c.1.2.1+wt n c.1.2.2+(c.2.2.map (EP n)).sum+1
def zJ (n:Nat) (b:Bh n):Nat:=b.1.size+(b.2.2.map (Co n)).sum+1
theorem zb:Tryz.prog.cellsOf 92=11:=by kernel_rfl
theorem qd:Tryz.prog.cellsOf 90=13:=by kernel_rfl
theorem xM:Tryz.prog.cellsOf 87=2:=by kernel_rfl
theorem Dv:Tryz.prog.cellsOf 88=1:=by kernel_rfl
theorem wh:Tryz.prog.cellsOf 85=1:=by kernel_rfl
theorem Cs {α H:Type} (g:α->Nat):(p:List α)->(es:List (DataW H))->(∀(i:Nat) (y:α) (e:DataW H),p[i]? =some y->es[i]? =some e->g y<=Rows.uptoBulk e)->p.length=es.length->(p.map g).sum<=Rows.uptoBulkAll es
 | [],es,_,h=>by simp
 | y::p,[],_,h=>by simp at h
 | y::p,e::es,hp,h=>by
  have h0:=hp 0 y e (by simp) (by simp)
  have h1:=Cs g p es (fun i y' e' hy he=>hp (i+1) y' e' (by simpa using hy) (by simpa using he)) (by simpa using h)
  simp only[List.map_cons,List.sum_cons,Rows.uptoBulkAll]
  omega
theorem row_of {H α:Type} (enc:TypeId×Value->H) (w:World) (sp:Nat->Bool) (k:Nat) (f:α->List Value) (I:α->Prop) (g:α->Nat) (T S:TypeId) (hS:Tryz.prog.underlying S=some (.slice T)) (hk:Tryz.prog.cellsOf T=k) (hk0:0<k) (hlen:∀y,(f y).length=k) (F:Nat)
    (elem:∀(m:Nat) (cs:List Value) (x:DataW H×List MemPlace),m<=F->DataW.trod enc Tryz.prog w 0 sp true m T cs=some x->∃y,cs=f y/\I y/\g y<=Rows.uptoBulk x.1)
    (m:Nat) (hm:m<=F) (v:Value) (x:DataW H×List MemPlace) (h:DataW.trod enc Tryz.prog w 0 sp true m S [v]=some x):
    ∃a l c,v=.slice a l.length c/\l.length<=c/\c<=maxLen/\Lay w.heap.size w k f I a l/\(l.map g).sum+1<=Rows.uptoBulk x.1:=by
 rcases DataW.trod_slice hS h with⟨e,rfl⟩|⟨a,len,cap,elems,rest,m',rfl,e,rfl,_,hlc,hcm,hel,hat,_,_⟩
 ·simp at e
  subst e
  exact⟨none,[],0,rfl,Nat.le_refl _,Nat.zero_le _,Or.inl rfl,by simp[Rows.uptoBulk]⟩
 ·simp at e
  subst e
  simp only[hk]at hat
  have key:∀i,i<len->∃y:α,(∃b o,a=⟨b,o,none⟩/\b<w.heap.size/\∀(j:Nat) (u:Value),(f y)[j]? =some u->w.cell? ⟨b,o+i*k+j,none⟩=some u)/\I y/\∀e,(elems.map (·.1))[i]? =some e->g y<=Rows.uptoBulk e:=by
   intro i hi
   have hi':=hat i hi
   have hi0:=hat 0 (by omega)
   rw[List.getElem?_eq_getElem (by omega)]at hi' hi0
   obtain⟨cs',hcs,htr⟩:=Option.bind_eq_some_iff.1 hi'
   obtain⟨cs0,hcs0,htr0⟩:=Option.bind_eq_some_iff.1 hi0
   obtain⟨_,hl',hcell⟩:=World.cells?_some hcs
   obtain⟨_,hl0,hcell0⟩:=World.cells?_some hcs0
   obtain⟨y,rfl,hin,hb⟩:=elem m' cs' _ (by omega) htr
   have ha:=uq (w:=w) (a:=a) (v:=cs0[0]'(by omega)) (by have:=hcell0 0 (by omega);rw[List.getElem?_eq_getElem (by omega)]at this;simpa using this)
   have hadd:∀j,(a.add (i*k)).add j=⟨a.block,a.off+i*k+j,none⟩:=fun j=>by
    have:=add_add a.block a.off (i*k) j
    rw[<-ha]at this
    exact this
   have hc:∀(j:Nat) (u:Value),(f y)[j]? =some u->w.cell? ⟨a.block,a.off+i*k+j,none⟩=some u:=fun j u hj=>by
    have hjl:=(List.getElem?_eq_some_iff.1 hj).1
    have:=hcell j (by rw[hlen]at hjl;omega)
    rw[hadd,hj]at this
    exact this
   obtain⟨u0,hu0⟩:∃u,(f y)[0]? =some u:=⟨(f y)[0]'(by rw[hlen];omega),List.getElem?_eq_getElem _⟩
   refine⟨y,⟨a.block,a.off,ha,World.block_lt_of_cell? w ⟨a.block,a.off+i*k+0,none⟩ (hc 0 u0 hu0),hc⟩,hin,fun e he=> ?_⟩
   rw[List.getElem?_map,List.getElem?_eq_getElem (by omega)]at he
   have:(elems[i]).1=e:=by simpa using he
   rw[<-this]
   exact hb
  obtain⟨p,hpl,hp⟩:=vK len key
  refine⟨some a,p,cap,by rw[hpl],by omega,hcm, ?_, ?_⟩
  ·rcases Nat.eq_zero_or_pos len with h|h
   ·exact Or.inl (List.eq_nil_of_length_eq_zero (hpl.trans h))
   ·obtain⟨⟨b,o,rfl,hb,_⟩,_,_⟩:=hp 0 (p[0]'(by rw[hpl];exact h)) (List.getElem?_eq_getElem (by rw[hpl];exact h))
    refine Or.inr ⟨b,o,rfl,hb,fun i y hy=> ?_⟩
    obtain⟨⟨b',o',e,_,hh⟩,hin,_⟩:=hp i y hy
    simp at e
    obtain⟨rfl,rfl⟩:=e
    exact⟨hh,hin⟩
  ·have hs:=Cs g p (elems.map (·.1)) (fun i y e hy he=>(hp i y hy).2.2 e he) (by simp;omega)
   simp only[Rows.uptoBulk]
   omega
theorem lH {H:Type} (enc:TypeId×Value->H) (w:World) (sp:Nat->Bool) (n m:Nat) (hm:m<=n) (cs:List Value) (x:DataW H×List MemPlace) (h:DataW.trod enc Tryz.prog w 0 sp true m 25 cs=some x):∃t:Tm (n+1),cs=fw (n+1) t/\In w.heap.size w (n+1) t/\wt (n+1) t<=Rows.uptoBulk x.1:=by
 obtain⟨t,h1,h2,h3⟩:=Cb enc w sp n m (by omega) cs x h
 exact⟨t,h1,h2,h3⟩
theorem Jq {H:Type} (enc:TypeId×Value->H) (w:World) (sp:Nat->Bool) (n m:Nat) (hm:m<=n) (cs:List Value) (x:DataW H×List MemPlace) (h:DataW.trod enc Tryz.prog w 0 sp true m 92 cs=some x):∃a:Ac (n+1),cs=oh (n+1) a/\AcIn (n+1) w.heap.size w a/\EP (n+1) a<=Rows.uptoBulk x.1:=by
 obtain⟨xs,m,rfl,rfl,hl,hx,hg⟩:=DataW.trod_struct Tryz.underlying92 h
 have h0:DataW.trod enc Tryz.prog w 0 sp true m 3 ((cs.drop 0).take (Tryz.prog.cellsOf 3))=xs[0]? :=hg 0 _ rfl
 have h1:DataW.trod enc Tryz.prog w 0 sp true m 25 ((cs.drop 1).take (Tryz.prog.cellsOf 25))=xs[1]? :=hg 1 _ rfl
 have h2:DataW.trod enc Tryz.prog w 0 sp true m 25 ((cs.drop 5).take (Tryz.prog.cellsOf 25))=xs[2]? :=hg 2 _ rfl
 have h3:DataW.trod enc Tryz.prog w 0 sp true m 9 ((cs.drop 9).take (Tryz.prog.cellsOf 9))=xs[3]? :=hg 3 _ rfl
 have h4:DataW.trod enc Tryz.prog w 0 sp true m 3 ((cs.drop 10).take (Tryz.prog.cellsOf 3))=xs[4]? :=hg 4 _ rfl
 rw[sM]at h0 h4
 rw[jI]at h1 h2
 rw[kT]at h3
 rw[zb]at hl
 obtain⟨c0,c1,c2,c3,c4,c5,c6,c7,c8,c9,c10,rfl⟩:∃c0 c1 c2 c3 c4 c5 c6 c7 c8 c9 c10,cs=[c0,c1,c2,c3,c4,c5,c6,c7,c8,c9,c10]:=by
  match cs,hl with
  | [c0,c1,c2,c3,c4,c5,c6,c7,c8,c9,c10],_=>exact⟨c0,c1,c2,c3,c4,c5,c6,c7,c8,c9,c10,rfl⟩
 obtain⟨y0,y1,y2,y3,y4,rfl⟩:∃y0 y1 y2 y3 y4,xs=[y0,y1,y2,y3,y4]:=by
  match xs,hx with
  | [y0,y1,y2,y3,y4],_=>exact⟨y0,y1,y2,y3,y4,rfl⟩
 obtain⟨k,e0,z0,w0⟩:=DataW.trod_int Tryz.underlying3 (x:=y0) (by simpa using h0)
 obtain⟨v,e4,z4,w4⟩:=DataW.trod_int Tryz.underlying3 (x:=y4) (by simpa using h4)
 obtain⟨s,e3,z3,w3⟩:=DataW.trod_string Tryz.underlying9 (x:=y3) (by simpa using h3)
 obtain⟨t,e1,i1,b1⟩:=lH enc w sp n m (by omega) [c1,c2,c3,c4] y1 (by simpa using h1)
 obtain⟨u,e2,i2,b2⟩:=lH enc w sp n m (by omega) [c5,c6,c7,c8] y2 (by simpa using h2)
 simp at e0 e3 e4
 subst e0 e3 e4 z0 z3 z4
 refine⟨(k,(t,u),(s,v)), ?_,⟨xQ w0,i1,i2,w3,xQ w4⟩, ?_⟩
 ·show _=.int .i64 k::(fw (n+1) t++fw (n+1) u++ [.string s,.int .i64 v])
  rw[<-e1,<-e2]
  rfl
 ·have es:s.data.toList.length=s.size:=by rw[Array.length_toList];rfl
  simp only[EP,Rows.uptoBulk,Rows.uptoBulkAll,List.map_cons,List.map_nil]
  omega
theorem CR {H:Type} (enc:TypeId×Value->H) (w:World) (sp:Nat->Bool) (n m:Nat) (hm:m<=n) (cs:List Value) (x:DataW H×List MemPlace) (h:DataW.trod enc Tryz.prog w 0 sp true m 90 cs=some x):∃a:Cl (n+1),cs=jS (n+1) a/\jH (n+1) w.heap.size w a/\Co (n+1) a<=Rows.uptoBulk x.1:=by
 obtain⟨xs,m,rfl,rfl,hl,hx,hg⟩:=DataW.trod_struct Tryz.underlying90 h
 have h0:DataW.trod enc Tryz.prog w 0 sp true m 25 ((cs.drop 0).take (Tryz.prog.cellsOf 25))=xs[0]? :=hg 0 _ rfl
 have h1:DataW.trod enc Tryz.prog w 0 sp true m 25 ((cs.drop 4).take (Tryz.prog.cellsOf 25))=xs[1]? :=hg 1 _ rfl
 have h2:DataW.trod enc Tryz.prog w 0 sp true m 88 ((cs.drop 8).take (Tryz.prog.cellsOf 88))=xs[2]? :=hg 2 _ rfl
 have h3:DataW.trod enc Tryz.prog w 0 sp true m 25 ((cs.drop 9).take (Tryz.prog.cellsOf 25))=xs[3]? :=hg 3 _ rfl
 rw[jI]at h0 h1 h3
 rw[Dv]at h2
 rw[qd]at hl
 obtain⟨c0,c1,c2,c3,c4,c5,c6,c7,c8,c9,c10,c11,c12,rfl⟩:∃c0 c1 c2 c3 c4 c5 c6 c7 c8 c9 c10 c11 c12,cs=[c0,c1,c2,c3,c4,c5,c6,c7,c8,c9,c10,c11,c12]:=by
  match cs,hl with
  | [c0,c1,c2,c3,c4,c5,c6,c7,c8,c9,c10,c11,c12],_=>exact⟨c0,c1,c2,c3,c4,c5,c6,c7,c8,c9,c10,c11,c12,rfl⟩
 obtain⟨y0,y1,y2,y3,rfl⟩:∃y0 y1 y2 y3,xs=[y0,y1,y2,y3]:=by
  match xs,hx with
  | [y0,y1,y2,y3],_=>exact⟨y0,y1,y2,y3,rfl⟩
 obtain⟨t,e0,i0,b0⟩:=lH enc w sp n m (by omega) [c0,c1,c2,c3] y0 (by simpa using h0)
 obtain⟨u,e1,i1,b1⟩:=lH enc w sp n m (by omega) [c4,c5,c6,c7] y1 (by simpa using h1)
 obtain⟨v,e3,i3,b3⟩:=lH enc w sp n m (by omega) [c9,c10,c11,c12] y3 (by simpa using h3)
 obtain⟨a,l,c,e2,hlc,hcm,hly,hb⟩:=row_of enc w sp 11 (oh (n+1)) (AcIn (n+1) w.heap.size w) (EP (n+1)) 92 88 Tryz.underlying88 zb (by omega) (fun _=>rfl) n (fun m cs x hm h=>Jq enc w sp n m hm cs x h) m (by omega) c8 y2 (by simpa using h2)
 subst e2
 refine⟨((t,u,v),(a,c),l), ?_,⟨⟨i0,i1,i3⟩,⟨hlc,hcm⟩,hly⟩, ?_⟩
 ·show _=fw (n+1) t++fw (n+1) u++(.slice a l.length c::fw (n+1) v)
  rw[<-e0,<-e1,<-e3]
  rfl
 ·simp only[Co,Rows.uptoBulk,Rows.uptoBulkAll,List.map_cons,List.map_nil]
  omega
theorem Jh {H:Type} (enc:TypeId×Value->H) (w:World) (sp:Nat->Bool) (n m:Nat) (hm:m<=n) (cs:List Value) (x:DataW H×List MemPlace) (h:DataW.trod enc Tryz.prog w 0 sp true m 87 cs=some x):∃a:Bh (n+1),cs=EC (n+1) a/\Bj (n+1) w.heap.size w a/\zJ (n+1) a<=Rows.uptoBulk x.1:=by
 obtain⟨xs,m,rfl,rfl,hl,hx,hg⟩:=DataW.trod_struct Tryz.underlying87 h
 have h0:DataW.trod enc Tryz.prog w 0 sp true m 9 ((cs.drop 0).take (Tryz.prog.cellsOf 9))=xs[0]? :=hg 0 _ rfl
 have h1:DataW.trod enc Tryz.prog w 0 sp true m 85 ((cs.drop 1).take (Tryz.prog.cellsOf 85))=xs[1]? :=hg 1 _ rfl
 rw[kT]at h0
 rw[wh]at h1
 rw[xM]at hl
 obtain⟨c0,c1,rfl⟩:∃c0 c1,cs=[c0,c1]:=by
  match cs,hl with
  | [c0,c1],_=>exact⟨c0,c1,rfl⟩
 obtain⟨y0,y1,rfl⟩:∃y0 y1,xs=[y0,y1]:=by
  match xs,hx with
  | [y0,y1],_=>exact⟨y0,y1,rfl⟩
 obtain⟨s,e0,z0,w0⟩:=DataW.trod_string Tryz.underlying9 (x:=y0) (by simpa using h0)
 obtain⟨a,l,c,e1,hlc,hcm,hly,hb⟩:=row_of enc w sp 13 (jS (n+1)) (jH (n+1) w.heap.size w) (Co (n+1)) 90 85 Tryz.underlying85 qd (by omega) (fun _=>rfl) n (fun m cs x hm h=>CR enc w sp n m hm cs x h) m (by omega) c1 y1 (by simpa using h1)
 simp at e0
 subst e0 z0 e1
 refine⟨(s,(a,c),l),rfl,⟨w0,⟨hlc,hcm⟩,hly⟩, ?_⟩
 have es:s.data.toList.length=s.size:=by rw[Array.length_toList];rfl
 simp only[zJ,Rows.uptoBulk,Rows.uptoBulkAll,List.map_cons,List.map_nil]
 omega
theorem Dh {H:Type} {enc:TypeId×Value->H} {W:World} {r:Reach} {b0:Nat} {v:Value} {d:DataW H} {p:List MemPlace} (hv:Value.okWide Tryz.prog W r b0 22 v)
    (h:DataW.Trod enc Tryz.prog W 0 (fun _=>true) true 22 v d p):∃n,∃l:List (Bh (n+1)),∃a c,v=.slice a l.length c/\l.length<=c/\c<=maxLen/\PgIn (n+1) W.heap.size W a l/\(l.map (zJ (n+1))).sum<=Rows.uptoBulk d:=by
 obtain⟨a,len,cap,rfl⟩:=okWide_slice Tryz.underlying22 hv
 obtain⟨f,hf⟩:=h
 have hf':DataW.trod enc Tryz.prog W 0 (fun _=>true) true f 22 [.slice a len cap]=some (d,p):=hf
 obtain⟨a',l,c,e,h1,h2,h3,h4⟩:=row_of enc W (fun _=>true) 2 (EC (f+1)) (Bj (f+1) W.heap.size W) (zJ (f+1)) 87 22 Tryz.underlying22 xM (by omega) (fun _=>rfl) f (fun m cs x hm h=>Jh enc W _ f m hm cs x h) f (Nat.le_refl _) _ _ hf'
 exact⟨f,l,a',c,e,h1,h2,h3,by simp only at h4;omega⟩
abbrev Pk (n:Nat):Type:=(Int×Int)×Tm (n+1)
def Jw (n:Nat) (c:Pk n):List Value:=.int .i64 c.1.1::.int .i64 c.1.2::fw (n+1) c.2
def Ja (n:Nat) (c:Pk n):Nat:=wt (n+1) c.2+1
def Di (n:Nat) (B:Nat) (w:World) (c:Pk n):Prop:=dZ c.1.1/\dZ c.1.2/\In B w (n+1) c.2
theorem sK:Tryz.prog.cellsOf 37=6:=by kernel_rfl
theorem Fs {H:Type} (enc:TypeId×Value->H) (w:World) (sp:Nat->Bool) (n m:Nat) (hm:m<=n) (cs:List Value) (x:DataW H×List MemPlace) (h:DataW.trod enc Tryz.prog w 0 sp true m 37 cs=some x):∃a:Pk n,cs=Jw n a/\Di n w.heap.size w a/\Ja n a<=Rows.uptoBulk x.1:=by
 obtain⟨xs,m,rfl,rfl,hl,hx,hg⟩:=DataW.trod_struct Tryz.underlying37 h
 have h0:DataW.trod enc Tryz.prog w 0 sp true m 3 ((cs.drop 0).take (Tryz.prog.cellsOf 3))=xs[0]? :=hg 0 _ rfl
 have h1:DataW.trod enc Tryz.prog w 0 sp true m 3 ((cs.drop 1).take (Tryz.prog.cellsOf 3))=xs[1]? :=hg 1 _ rfl
 have h2:DataW.trod enc Tryz.prog w 0 sp true m 25 ((cs.drop 2).take (Tryz.prog.cellsOf 25))=xs[2]? :=hg 2 _ rfl
 rw[sM]at h0 h1
 rw[jI]at h2
 rw[sK]at hl
 obtain⟨c0,c1,c2,c3,c4,c5,rfl⟩:∃c0 c1 c2 c3 c4 c5,cs=[c0,c1,c2,c3,c4,c5]:=by
  match cs,hl with
  | [c0,c1,c2,c3,c4,c5],_=>exact⟨c0,c1,c2,c3,c4,c5,rfl⟩
 obtain⟨y0,y1,y2,rfl⟩:∃y0 y1 y2,xs=[y0,y1,y2]:=by
  match xs,hx with
  | [y0,y1,y2],_=>exact⟨y0,y1,y2,rfl⟩
 obtain⟨k,e0,z0,w0⟩:=DataW.trod_int Tryz.underlying3 (x:=y0) (by simpa using h0)
 obtain⟨a,e1,z1,w1⟩:=DataW.trod_int Tryz.underlying3 (x:=y1) (by simpa using h1)
 obtain⟨t,e2,i2,b2⟩:=lH enc w sp n m (by omega) [c2,c3,c4,c5] y2 (by simpa using h2)
 simp at e0 e1
 subst e0 e1 z0 z1
 refine⟨((k,a),t), ?_,⟨xQ w0,xQ w1,i2⟩, ?_⟩
 ·show _=.int .i64 k::.int .i64 a::fw (n+1) t
  rw[<-e2]
 ·simp only[Ja,Rows.uptoBulk,Rows.uptoBulkAll,List.map_cons,List.map_nil]
  omega
theorem zB {H:Type} {enc:TypeId×Value->H} {W:World} {r:Reach} {b0:Nat} {v:Value} {d:DataW H} {p:List MemPlace} (hv:Value.okWide Tryz.prog W r b0 26 v)
    (h:DataW.Trod enc Tryz.prog W 0 (fun _=>true) true 26 v d p):∃n,∃l:List (Pk n),∃a c,v=.slice a l.length c/\l.length<=c/\c<=maxLen/\Lay W.heap.size W 6 (Jw n) (Di n W.heap.size W) a l/\(l.map (Ja n)).sum<=Rows.uptoBulk d:=by
 obtain⟨a,len,cap,rfl⟩:=okWide_slice Tryz.underlying26 hv
 obtain⟨f,hf⟩:=h
 have hf':DataW.trod enc Tryz.prog W 0 (fun _=>true) true f 26 [.slice a len cap]=some (d,p):=hf
 obtain⟨a',l,c,e,h1,h2,h3,h4⟩:=row_of enc W (fun _=>true) 6 (Jw f) (Di f W.heap.size W) (Ja f) 37 26 Tryz.underlying26 sK (by omega) (fun _=>rfl) f (fun m cs x hm h=>Fs enc W _ f m hm cs x h) f (Nat.le_refl _) _ _ hf'
 exact⟨f,l,a',c,e,h1,h2,h3,by simp only at h4;omega⟩
theorem FM {n:Nat} (l:List (Pk n)) (y:Pk n) (h:y∈l):Ja n y<=(l.map (Ja n)).sum:=by
 induction l with
 | nil=>cases h
 | cons z l ih=>
  simp only[List.map_cons,List.sum_cons]
  rcases List.mem_cons.1 h with rfl|h
  ·omega
  ·have:=ih h
   omega
theorem yZ {n:Nat} {l:List (Pk n)} (hs:(l.map (Ja n)).sum<=1048576) (y:Pk n) (h:y∈l):(nodes (n+1) y.2).length<=2097152:=by
 have h1:=FM l y h
 have h2:=mZ (n+1) y.2
 have h3:wt (n+1) y.2+1<=(l.map (Ja n)).sum:=h1
 omega
end Go.Proofs.YtbknffhilfoakaaGreat
