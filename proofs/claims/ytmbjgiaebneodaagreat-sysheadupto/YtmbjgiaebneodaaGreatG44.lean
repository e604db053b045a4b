/- What is proved here: plain facts and contracts that the claimed theorem stands on. No condition but those that each names. -/
import Derived.Test.YtmbjgiaebneodaaGreatG43
namespace Go.Proofs.YtmbjgiaebneodaaGreat
open Go.ChangeShapes Go.WideShapes Go.ChangeAt Go.RowKit
open Go.RowKit
set_option maxRecDepth 100000
set_option maxHeartbeats 1000000
def OD (n:Nat) (a:Ac n):Nat:=wt n a.2.1.1+wt n a.2.1.2+a.2.2.1.size+1
def Om (n:Nat) (c:Cl n):Nat:=wt n c.1.1+wt n c.1.2.1+wt n c.1.2.2+(c.2.2.map (OD n)).sum+1
def ME (n:Nat) (b:Bh n):Nat:=b.1.size+(b.2.2.map (Om n)).sum+1
theorem Da:Tryz.prog.cellsOf 74=11:=by kernel_rfl
theorem sZ:Tryz.prog.cellsOf 77=13:=by kernel_rfl
theorem Dn:Tryz.prog.cellsOf 80=2:=by kernel_rfl
theorem IE:Tryz.prog.cellsOf 75=1:=by kernel_rfl
theorem Aw:Tryz.prog.cellsOf 78=1:=by kernel_rfl
theorem FD {α H:Type} (g:α->Nat):(p:List α)->(es:List (DataW H))->(∀(i:Nat) (y:α) (e:DataW H),p[i]? =some y->es[i]? =some e->g y<=Rows.uptoBulk e)->p.length=es.length->(p.map g).sum<=Rows.uptoBulkAll es
 | [],es,_,h=>by simp
 | y::p,[],_,h=>by simp at h
 | y::p,e::es,hp,h=>by
  have h0:=hp 0 y e (by simp) (by simp)
  have h1:=FD g p es (fun i y' e' hy he=>hp (i+1) y' e' (by simpa using hy) (by simpa using he)) (by simpa using h)
  simp only[List.map_cons,List.sum_cons,Rows.uptoBulkAll]
  omega
theorem row_of {H α:Type} (enc:TypeId×Value->H) (w:World) (sp:Nat->Bool) (k:Nat) (f:α->List Value) (I:α->Prop) (g:α->Nat) (T S:TypeId) (hS:Tryz.prog.underlying S=some (.slice T)) (hk:Tryz.prog.cellsOf T=k) (hk0:0<k) (hlen:∀y,(f y).length=k) (F:Nat)
    (elem:∀(m:Nat) (cs:List Value) (x:DataW H×List MemPlace),m<=F->DataW.trod enc Tryz.prog w 0 sp true m T cs=some x->∃y,cs=f y/\I y/\g y<=Rows.uptoBulk x.1)
    (m:Nat) (hm:m<=F) (v:Value) (x:DataW H×List MemPlace) (h:DataW.trod enc Tryz.prog w 0 sp true m S [v]=some x):
    ∃a l c,v=.slice a l.length c/\l.length<=c/\c<=maxLen/\Lay w.heap.size w k f I a l/\(l.map g).sum+1<=Rows.uptoBulk x.1:=by
 rcases DataW.trod_slice hS h with⟨e,rfl⟩|⟨a,len,cap,elems,rest,m',rfl,e,rfl,_,hlc,hcm,hel,hat,_,_⟩
 ·simp at e
  subst e
  exact⟨none,[],0,rfl,Nat.le_refl _,Nat.zero_le _,Or.inl rfl,by simp[Rows.uptoBulk]⟩
 ·simp at e
  subst e
  simp only[hk]at hat
  have key:∀i,i<len->∃y:α,(∃b o,a=⟨b,o,none⟩/\b<w.heap.size/\∀(j:Nat) (u:Value),(f y)[j]? =some u->w.cell? ⟨b,o+i*k+j,none⟩=some u)/\I y/\∀e,(elems.map (·.1))[i]? =some e->g y<=Rows.uptoBulk e:=by
   intro i hi
   have hi':=hat i hi
   have hi0:=hat 0 (by omega)
   rw[List.getElem?_eq_getElem (by omega)]at hi' hi0
   obtain⟨cs',hcs,htr⟩:=Option.bind_eq_some_iff.1 hi'
   obtain⟨cs0,hcs0,htr0⟩:=Option.bind_eq_some_iff.1 hi0
   obtain⟨_,hl',hcell⟩:=World.cells?_some hcs
   obtain⟨_,hl0,hcell0⟩:=World.cells?_some hcs0
   obtain⟨y,rfl,hin,hb⟩:=elem m' cs' _ (by omega) htr
   have ha:=xB (w:=w) (a:=a) (v:=cs0[0]'(by omega)) (by have:=hcell0 0 (by omega);rw[List.getElem?_eq_getElem (by omega)]at this;simpa using this)
   have hadd:∀j,(a.add (i*k)).add j=⟨a.block,a.off+i*k+j,none⟩:=fun j=>by
    have:=add_add a.block a.off (i*k) j
    rw[<-ha]at this
    exact this
   have hc:∀(j:Nat) (u:Value),(f y)[j]? =some u->w.cell? ⟨a.block,a.off+i*k+j,none⟩=some u:=fun j u hj=>by
    have hjl:=(List.getElem?_eq_some_iff.1 hj).1
    have:=hcell j (by rw[hlen]at hjl;omega)
    rw[hadd,hj]at this
    exact this
   obtain⟨u0,hu0⟩:∃u,(f y)[0]? =some u:=⟨(f y)[0]'(by rw[hlen];omega),List.getElem?_eq_getElem _⟩
   refine⟨y,⟨a.block,a.off,ha,World.block_lt_of_cell? w ⟨a.block,a.off+i*k+0,none⟩ (hc 0 u0 hu0),hc⟩,hin,fun e he=> ?_⟩
   rw[List.getElem?_map,List.getElem?_eq_getElem (by omega)]at he
   have:(elems[i]).1=e:=by simpa using he
   rw[<-this]
   exact hb
  obtain⟨p,hpl,hp⟩:=zy len key
  refine⟨some a,p,cap,by rw[hpl],by omega,hcm, ?_, ?_⟩
  ·rcases Nat.eq_zero_or_pos len with h|h
   ·exact Or.inl (List.eq_nil_of_length_eq_zero (hpl.trans h))
   ·obtain⟨⟨b,o,rfl,hb,_⟩,_,_⟩:=hp 0 (p[0]'(by rw[hpl];exact h)) (List.getElem?_eq_getElem (by rw[hpl];exact h))
    refine Or.inr ⟨b,o,rfl,hb,fun i y hy=> ?_⟩
    obtain⟨⟨b',o',e,_,hh⟩,hin,_⟩:=hp i y hy
    simp at e
    obtain⟨rfl,rfl⟩:=e
    exact⟨hh,hin⟩
  ·have hs:=FD g p (elems.map (·.1)) (fun i y e hy he=>(hp i y hy).2.2 e he) (by simp;omega)
   simp only[Rows.uptoBulk]
   omega
theorem lw {H:Type} (enc:TypeId×Value->H) (w:World) (sp:Nat->Bool) (n m:Nat) (hm:m<=n) (cs:List Value) (x:DataW H×List MemPlace) (h:DataW.trod enc Tryz.prog w 0 sp true m 30 cs=some x):∃t:Tm (n+1),cs=fP (n+1) t/\In w.heap.size w (n+1) t/\wt (n+1) t<=Rows.uptoBulk x.1:=by
 obtain⟨t,h1,h2,h3⟩:=Nj enc w sp n m (by omega) cs x h
 exact⟨t,h1,h2,h3⟩
theorem PQ {H:Type} (enc:TypeId×Value->H) (w:World) (sp:Nat->Bool) (n m:Nat) (hm:m<=n) (cs:List Value) (x:DataW H×List MemPlace) (h:DataW.trod enc Tryz.prog w 0 sp true m 74 cs=some x):∃a:Ac (n+1),cs=eG (n+1) a/\AcIn (n+1) w.heap.size w a/\OD (n+1) a<=Rows.uptoBulk x.1:=by
 obtain⟨xs,m,rfl,rfl,hl,hx,hg⟩:=DataW.trod_struct Tryz.underlying74 h
 have h0:DataW.trod enc Tryz.prog w 0 sp true m 3 ((cs.drop 0).take (Tryz.prog.cellsOf 3))=xs[0]? :=hg 0 _ rfl
 have h1:DataW.trod enc Tryz.prog w 0 sp true m 30 ((cs.drop 1).take (Tryz.prog.cellsOf 30))=xs[1]? :=hg 1 _ rfl
 have h2:DataW.trod enc Tryz.prog w 0 sp true m 30 ((cs.drop 5).take (Tryz.prog.cellsOf 30))=xs[2]? :=hg 2 _ rfl
 have h3:DataW.trod enc Tryz.prog w 0 sp true m 9 ((cs.drop 9).take (Tryz.prog.cellsOf 9))=xs[3]? :=hg 3 _ rfl
 have h4:DataW.trod enc Tryz.prog w 0 sp true m 3 ((cs.drop 10).take (Tryz.prog.cellsOf 3))=xs[4]? :=hg 4 _ rfl
 rw[uD]at h0 h4
 rw[jv]at h1 h2
 rw[jZ]at h3
 rw[Da]at hl
 obtain⟨c0,c1,c2,c3,c4,c5,c6,c7,c8,c9,c10,rfl⟩:∃c0 c1 c2 c3 c4 c5 c6 c7 c8 c9 c10,cs=[c0,c1,c2,c3,c4,c5,c6,c7,c8,c9,c10]:=by
  match cs,hl with
  | [c0,c1,c2,c3,c4,c5,c6,c7,c8,c9,c10],_=>exact⟨c0,c1,c2,c3,c4,c5,c6,c7,c8,c9,c10,rfl⟩
 obtain⟨y0,y1,y2,y3,y4,rfl⟩:∃y0 y1 y2 y3 y4,xs=[y0,y1,y2,y3,y4]:=by
  match xs,hx with
  | [y0,y1,y2,y3,y4],_=>exact⟨y0,y1,y2,y3,y4,rfl⟩
 obtain⟨k,e0,z0,w0⟩:=DataW.trod_int Tryz.underlying3 (x:=y0) (by simpa using h0)
 obtain⟨v,e4,z4,w4⟩:=DataW.trod_int Tryz.underlying3 (x:=y4) (by simpa using h4)
 obtain⟨s,e3,z3,w3⟩:=DataW.trod_string Tryz.underlying9 (x:=y3) (by simpa using h3)
 obtain⟨t,e1,i1,b1⟩:=lw enc w sp n m (by omega) [c1,c2,c3,c4] y1 (by simpa using h1)
 obtain⟨u,e2,i2,b2⟩:=lw enc w sp n m (by omega) [c5,c6,c7,c8] y2 (by simpa using h2)
 simp at e0 e3 e4
 subst e0 e3 e4 z0 z3 z4
 refine⟨(k,(t,u),(s,v)), ?_,⟨zR w0,i1,i2,w3,zR w4⟩, ?_⟩
 ·show _=.int .i64 k::(fP (n+1) t++fP (n+1) u++ [.string s,.int .i64 v])
  rw[<-e1,<-e2]
  rfl
 ·have es:s.data.toList.length=s.size:=by rw[Array.length_toList];rfl
  simp only[OD,Rows.uptoBulk,Rows.uptoBulkAll,List.map_cons,List.map_nil]
  omega
theorem Gn {H:Type} (enc:TypeId×Value->H) (w:World) (sp:Nat->Bool) (n m:Nat) (hm:m<=n) (cs:List Value) (x:DataW H×List MemPlace) (h:DataW.trod enc Tryz.prog w 0 sp true m 77 cs=some x):∃a:Cl (n+1),cs=dJ (n+1) a/\fM (n+1) w.heap.size w a/\Om (n+1) a<=Rows.uptoBulk x.1:=by
 obtain⟨xs,m,rfl,rfl,hl,hx,hg⟩:=DataW.trod_struct Tryz.underlying77 h
 have h0:DataW.trod enc Tryz.prog w 0 sp true m 30 ((cs.drop 0).take (Tryz.prog.cellsOf 30))=xs[0]? :=hg 0 _ rfl
 have h1:DataW.trod enc Tryz.prog w 0 sp true m 30 ((cs.drop 4).take (Tryz.prog.cellsOf 30))=xs[1]? :=hg 1 _ rfl
 have h2:DataW.trod enc Tryz.prog w 0 sp true m 75 ((cs.drop 8).take (Tryz.prog.cellsOf 75))=xs[2]? :=hg 2 _ rfl
 have h3:DataW.trod enc Tryz.prog w 0 sp true m 30 ((cs.drop 9).take (Tryz.prog.cellsOf 30))=xs[3]? :=hg 3 _ rfl
 rw[jv]at h0 h1 h3
 rw[IE]at h2
 rw[sZ]at hl
 obtain⟨c0,c1,c2,c3,c4,c5,c6,c7,c8,c9,c10,c11,c12,rfl⟩:∃c0 c1 c2 c3 c4 c5 c6 c7 c8 c9 c10 c11 c12,cs=[c0,c1,c2,c3,c4,c5,c6,c7,c8,c9,c10,c11,c12]:=by
  match cs,hl with
  | [c0,c1,c2,c3,c4,c5,c6,c7,c8,c9,c10,c11,c12],_=>exact⟨c0,c1,c2,c3,c4,c5,c6,c7,c8,c9,c10,c11,c12,rfl⟩
 obtain⟨y0,y1,y2,y3,rfl⟩:∃y0 y1 y2 y3,xs=[y0,y1,y2,y3]:=by
  match xs,hx with
  | [y0,y1,y2,y3],_=>exact⟨y0,y1,y2,y3,rfl⟩
 obtain⟨t,e0,i0,b0⟩:=lw enc w sp n m (by omega) [c0,c1,c2,c3] y0 (by simpa using h0)
 obtain⟨u,e1,i1,b1⟩:=lw enc w sp n m (by omega) [c4,c5,c6,c7] y1 (by simpa using h1)
 obtain⟨v,e3,i3,b3⟩:=lw enc w sp n m (by omega) [c9,c10,c11,c12] y3 (by simpa using h3)
 obtain⟨a,l,c,e2,hlc,hcm,hly,hb⟩:=row_of enc w sp 11 (eG (n+1)) (AcIn (n+1) w.heap.size w) (OD (n+1)) 74 75 Tryz.underlying75 Da (by omega) (fun _=>rfl) n (fun m cs x hm h=>PQ enc w sp n m hm cs x h) m (by omega) c8 y2 (by simpa using h2)
 subst e2
 refine⟨((t,u,v),(a,c),l), ?_,⟨⟨i0,i1,i3⟩,⟨hlc,hcm⟩,hly⟩, ?_⟩
 ·show _=fP (n+1) t++fP (n+1) u++(.slice a l.length c::fP (n+1) v)
  rw[<-e0,<-e1,<-e3]
  rfl
 ·simp only[Om,Rows.uptoBulk,Rows.uptoBulkAll,List.map_cons,List.map_nil]
  omega
theorem OY {H:Type} (enc:TypeId×Value->H) (w:World) (sp:Nat->Bool) (n m:Nat) (hm:m<=n) (cs:List Value) (x:DataW H×List MemPlace) (h:DataW.trod enc Tryz.prog w 0 sp true m 80 cs=some x):∃a:Bh (n+1),cs=nK (n+1) a/\nQ (n+1) w.heap.size w a/\ME (n+1) a<=Rows.uptoBulk x.1:=by
 obtain⟨xs,m,rfl,rfl,hl,hx,hg⟩:=DataW.trod_struct Tryz.underlying80 h
 have h0:DataW.trod enc Tryz.prog w 0 sp true m 9 ((cs.drop 0).take (Tryz.prog.cellsOf 9))=xs[0]? :=hg 0 _ rfl
 have h1:DataW.trod enc Tryz.prog w 0 sp true m 78 ((cs.drop 1).take (Tryz.prog.cellsOf 78))=xs[1]? :=hg 1 _ rfl
 rw[jZ]at h0
 rw[Aw]at h1
 rw[Dn]at hl
 obtain⟨c0,c1,rfl⟩:∃c0 c1,cs=[c0,c1]:=by
  match cs,hl with
  | [c0,c1],_=>exact⟨c0,c1,rfl⟩
 obtain⟨y0,y1,rfl⟩:∃y0 y1,xs=[y0,y1]:=by
  match xs,hx with
  | [y0,y1],_=>exact⟨y0,y1,rfl⟩
 obtain⟨s,e0,z0,w0⟩:=DataW.trod_string Tryz.underlying9 (x:=y0) (by simpa using h0)
 obtain⟨a,l,c,e1,hlc,hcm,hly,hb⟩:=row_of enc w sp 13 (dJ (n+1)) (fM (n+1) w.heap.size w) (Om (n+1)) 77 78 Tryz.underlying78 sZ (by omega) (fun _=>rfl) n (fun m cs x hm h=>Gn enc w sp n m hm cs x h) m (by omega) c1 y1 (by simpa using h1)
 simp at e0
 subst e0 z0 e1
 refine⟨(s,(a,c),l),rfl,⟨w0,⟨hlc,hcm⟩,hly⟩, ?_⟩
 have es:s.data.toList.length=s.size:=by rw[Array.length_toList];rfl
 simp only[ME,Rows.uptoBulk,Rows.uptoBulkAll,List.map_cons,List.map_nil]
 omega
theorem Jl {H:Type} {enc:TypeId×Value->H} {W:World} {r:Reach} {b0:Nat} {v:Value} {d:DataW H} {p:List MemPlace} (hv:Value.okWide Tryz.prog W r b0 22 v)
    (h:DataW.Trod enc Tryz.prog W 0 (fun _=>true) true 22 v d p):∃n,∃l:List (Bh (n+1)),∃a c,v=.slice a l.length c/\l.length<=c/\c<=maxLen/\PgIn (n+1) W.heap.size W a l/\(l.map (ME (n+1))).sum<=Rows.uptoBulk d:=by
 obtain⟨a,len,cap,rfl⟩:=okWide_slice Tryz.underlying22 hv
 obtain⟨f,hf⟩:=h
 have hf':DataW.trod enc Tryz.prog W 0 (fun _=>true) true f 22 [.slice a len cap]=some (d,p):=hf
 obtain⟨a',l,c,e,h1,h2,h3,h4⟩:=row_of enc W (fun _=>true) 2 (nK (f+1)) (nQ (f+1) W.heap.size W) (ME (f+1)) 80 22 Tryz.underlying22 Dn (by omega) (fun _=>rfl) f (fun m cs x hm h=>OY enc W _ f m hm cs x h) f (Nat.le_refl _) _ _ hf'
 exact⟨f,l,a',c,e,h1,h2,h3,by simp only at h4;omega⟩
abbrev Sk (n:Nat):Type:=ByteArray×Tm (n+1)
def Qy (n:Nat) (c:Sk n):List Value:=.string c.1::fP (n+1) c.2
def MI (n:Nat) (c:Sk n):Nat:=wt (n+1) c.2+1
def Nr (n:Nat) (B:Nat) (w:World) (c:Sk n):Prop:=c.1.size<=maxLen/\In B w (n+1) c.2
abbrev Hn (n:Nat):Type:=(Int×Int×Int)×Tm (n+1)
def Qh (n:Nat) (c:Hn n):List Value:=.int .i64 c.1.1::.int .i64 c.1.2.1::.int .i64 c.1.2.2::fP (n+1) c.2
def KW (n:Nat) (c:Hn n):Nat:=wt (n+1) c.2+1
def Jr (n:Nat) (B:Nat) (w:World) (c:Hn n):Prop:=(bR c.1.1/\bR c.1.2.1/\bR c.1.2.2)/\In B w (n+1) c.2
theorem vv:Tryz.prog.cellsOf 51=5:=by kernel_rfl
theorem qI:Tryz.prog.cellsOf 32=7:=by kernel_rfl
theorem Kk {H:Type} (enc:TypeId×Value->H) (w:World) (sp:Nat->Bool) (n m:Nat) (hm:m<=n) (cs:List Value) (x:DataW H×List MemPlace) (h:DataW.trod enc Tryz.prog w 0 sp true m 51 cs=some x):∃a:Sk n,cs=Qy n a/\Nr n w.heap.size w a/\MI n a<=Rows.uptoBulk x.1:=by
 obtain⟨xs,m,rfl,rfl,hl,hx,hg⟩:=DataW.trod_struct Tryz.underlying51 h
 have h0:DataW.trod enc Tryz.prog w 0 sp true m 9 ((cs.drop 0).take (Tryz.prog.cellsOf 9))=xs[0]? :=hg 0 _ rfl
 have h1:DataW.trod enc Tryz.prog w 0 sp true m 30 ((cs.drop 1).take (Tryz.prog.cellsOf 30))=xs[1]? :=hg 1 _ rfl
 rw[jZ]at h0
 rw[jv]at h1
 rw[vv]at hl
 obtain⟨c0,c1,c2,c3,c4,rfl⟩:∃c0 c1 c2 c3 c4,cs=[c0,c1,c2,c3,c4]:=by
  match cs,hl with
  | [c0,c1,c2,c3,c4],_=>exact⟨c0,c1,c2,c3,c4,rfl⟩
 obtain⟨y0,y1,rfl⟩:∃y0 y1,xs=[y0,y1]:=by
  match xs,hx with
  | [y0,y1],_=>exact⟨y0,y1,rfl⟩
 obtain⟨s,e0,z0,w0⟩:=DataW.trod_string Tryz.underlying9 (x:=y0) (by simpa using h0)
 obtain⟨t,e2,i2,b2⟩:=lw enc w sp n m (by omega) [c1,c2,c3,c4] y1 (by simpa using h1)
 simp at e0
 subst e0 z0
 refine⟨(s,t), ?_,⟨w0,i2⟩, ?_⟩
 ·show _=.string s::fP (n+1) t
  rw[<-e2]
 ·simp only[MI,Rows.uptoBulk,Rows.uptoBulkAll,List.map_cons,List.map_nil]
  omega
theorem DT {H:Type} (enc:TypeId×Value->H) (w:World) (sp:Nat->Bool) (n m:Nat) (hm:m<=n) (cs:List Value) (x:DataW H×List MemPlace) (h:DataW.trod enc Tryz.prog w 0 sp true m 32 cs=some x):∃a:Hn n,cs=Qh n a/\Jr n w.heap.size w a/\KW n a<=Rows.uptoBulk x.1:=by
 obtain⟨xs,m,rfl,rfl,hl,hx,hg⟩:=DataW.trod_struct Tryz.underlying32 h
 have h0:DataW.trod enc Tryz.prog w 0 sp true m 3 ((cs.drop 0).take (Tryz.prog.cellsOf 3))=xs[0]? :=hg 0 _ rfl
 have h1:DataW.trod enc Tryz.prog w 0 sp true m 3 ((cs.drop 1).take (Tryz.prog.cellsOf 3))=xs[1]? :=hg 1 _ rfl
 have h2:DataW.trod enc Tryz.prog w 0 sp true m 3 ((cs.drop 2).take (Tryz.prog.cellsOf 3))=xs[2]? :=hg 2 _ rfl
 have h3:DataW.trod enc Tryz.prog w 0 sp true m 30 ((cs.drop 3).take (Tryz.prog.cellsOf 30))=xs[3]? :=hg 3 _ rfl
 rw[uD]at h0 h1 h2
 rw[jv]at h3
 rw[qI]at hl
 obtain⟨c0,c1,c2,c3,c4,c5,c6,rfl⟩:∃c0 c1 c2 c3 c4 c5 c6,cs=[c0,c1,c2,c3,c4,c5,c6]:=by
  match cs,hl with
  | [c0,c1,c2,c3,c4,c5,c6],_=>exact⟨c0,c1,c2,c3,c4,c5,c6,rfl⟩
 obtain⟨y0,y1,y2,y3,rfl⟩:∃y0 y1 y2 y3,xs=[y0,y1,y2,y3]:=by
  match xs,hx with
  | [y0,y1,y2,y3],_=>exact⟨y0,y1,y2,y3,rfl⟩
 obtain⟨k,e0,z0,w0⟩:=DataW.trod_int Tryz.underlying3 (x:=y0) (by simpa using h0)
 obtain⟨a,e1,z1,w1⟩:=DataW.trod_int Tryz.underlying3 (x:=y1) (by simpa using h1)
 obtain⟨b,e2,z2,w2⟩:=DataW.trod_int Tryz.underlying3 (x:=y2) (by simpa using h2)
 obtain⟨t,e3,i3,b3⟩:=lw enc w sp n m (by omega) [c3,c4,c5,c6] y3 (by simpa using h3)
 simp at e0 e1 e2
 subst e0 e1 e2 z0 z1 z2
 refine⟨((k,a,b),t), ?_,⟨⟨zR w0,zR w1,zR w2⟩,i3⟩, ?_⟩
 ·show _=.int .i64 k::.int .i64 a::.int .i64 b::fP (n+1) t
  rw[<-e3]
 ·simp only[KW,Rows.uptoBulk,Rows.uptoBulkAll,List.map_cons,List.map_nil]
  omega
theorem CV {H:Type} {enc:TypeId×Value->H} {W:World} {r:Reach} {b0:Nat} {v:Value} {d:DataW H} {p:List MemPlace} (hv:Value.okWide Tryz.prog W r b0 23 v)
    (h:DataW.Trod enc Tryz.prog W 0 (fun _=>true) true 23 v d p):∃n,∃l:List (Sk n),∃a c,v=.slice a l.length c/\l.length<=c/\c<=maxLen/\Lay W.heap.size W 5 (Qy n) (Nr n W.heap.size W) a l/\(l.map (MI n)).sum<=Rows.uptoBulk d:=by
 obtain⟨a,len,cap,rfl⟩:=okWide_slice Tryz.underlying23 hv
 obtain⟨f,hf⟩:=h
 have hf':DataW.trod enc Tryz.prog W 0 (fun _=>true) true f 23 [.slice a len cap]=some (d,p):=hf
 obtain⟨a',l,c,e,h1,h2,h3,h4⟩:=row_of enc W (fun _=>true) 5 (Qy f) (Nr f W.heap.size W) (MI f) 51 23 Tryz.underlying23 vv (by omega) (fun _=>rfl) f (fun m cs x hm h=>Kk enc W _ f m hm cs x h) f (Nat.le_refl _) _ _ hf'
 exact⟨f,l,a',c,e,h1,h2,h3,by simp only at h4;omega⟩
theorem qJ {H:Type} {enc:TypeId×Value->H} {W:World} {r:Reach} {b0:Nat} {v:Value} {d:DataW H} {p:List MemPlace} (hv:Value.okWide Tryz.prog W r b0 24 v)
    (h:DataW.Trod enc Tryz.prog W 0 (fun _=>true) true 24 v d p):∃n,∃l:List (Hn n),∃a c,v=.slice a l.length c/\l.length<=c/\c<=maxLen/\Lay W.heap.size W 7 (Qh n) (Jr n W.heap.size W) a l/\(l.map (KW n)).sum<=Rows.uptoBulk d:=by
 obtain⟨a,len,cap,rfl⟩:=okWide_slice Tryz.underlying24 hv
 obtain⟨f,hf⟩:=h
 have hf':DataW.trod enc Tryz.prog W 0 (fun _=>true) true f 24 [.slice a len cap]=some (d,p):=hf
 obtain⟨a',l,c,e,h1,h2,h3,h4⟩:=row_of enc W (fun _=>true) 7 (Qh f) (Jr f W.heap.size W) (KW f) 32 24 Tryz.underlying24 qI (by omega) (fun _=>rfl) f (fun m cs x hm h=>DT enc W _ f m hm cs x h) f (Nat.le_refl _) _ _ hf'
 exact⟨f,l,a',c,e,h1,h2,h3,by simp only at h4;omega⟩
theorem Ce {α:Type} (f:α->Nat) (l:List α) (y:α) (h:y∈l):f y<=(l.map f).sum:=by
 induction l with
 | nil=>cases h
 | cons z l ih=>
  simp only[List.map_cons,List.sum_cons]
  rcases List.mem_cons.1 h with rfl|h
  ·omega
  ·have:=ih h
   omega
theorem pR {α:Type} (f:α->Nat) (hf:∀y,1<=f y):(l:List α)->l.length<=(l.map f).sum
 | []=>Nat.zero_le _
 | y::l=>by
  have:=pR f hf l
  have:=hf y
  simp only[List.map_cons,List.sum_cons,List.length_cons]
  omega
theorem DZ {α:Type} {B k:Nat} {f:α->List Value} {I:α->Prop} {a:Option Addr} {l:List α} {w:World} (h:Lay B w k f I a l) {j:Nat} {y:α} (hy:l[j]? =some y):∃g o,a=some ⟨g,o,none⟩/\g<B/\(∀(t:Nat) (u:Value),(f y)[t]? =some u->w.cell? ⟨g,o+j*k+t,none⟩=some u)/\I y:=by
 rcases h with h|⟨g,o,e,hg,h⟩
 ·rw[h]at hy
  simp at hy
 ·exact⟨g,o,e,hg,(h j y hy).1,(h j y hy).2⟩
theorem ER {α:Type} (l:List α) (z:α):∃G:Nat->α,∀j,j<l.length->l[j]? =some (G j):=⟨fun j=>l.getD j z,fun j hj=>by
 simp only[List.getD_eq_getElem?_getD,List.getElem?_eq_getElem hj]
 rfl⟩
def O3 (w0:World) (i sb:Nat) (W:World):Prop:=∃(p:SyP) (s:Sy) (d:SyD),p.b=sb/\SyAt p s d W/\(d.k<=i*402/\d.es.length<=i*201/\d.wn<=i*201/\d.bn<=i*201)/\Below w0.heap.size w0 W/\w0.heap.size<=p.lo
def QG (w0:World) (i sb:Nat) (a:Option Addr) (L:Nat) (W:World):Prop:=∃(p:SyP) (s:Sy) (d:SyD) (fs:List (ByteArray×Int×Int×Tc)) (b0:Nat) (W1:World) (d1:SyD),p.b=sb/\SyAt p s d W/\(d.k<=i*402/\d.es.length<=i*201/\d.wn<=i*201/\d.bn<=i*201)/\(Below w0.heap.size w0 W/\w0.heap.size<=p.lo)/\fs.length=L/\(∃r,s.evs=fs.map IC++r)/\EvsAt b0 a fs W1/\Kee (fun q=>d1.ow q≠0) W1 W/\(∀q,q<W1.heap.size->d.ow q=d1.ow q)/\∀q,b0<=q->q<W1.heap.size->d1.ow q=0
theorem OC {w0 W:World} {p:SyP} {s:Sy} {d:SyD} {i:Nat} (h:SyAt p s d W) (hk:d.k<=i*402/\d.es.length<=i*201/\d.wn<=i*201/\d.bn<=i*201) (hi:i<=110) (hb:Below w0.heap.size w0 W) (hl:w0.heap.size<=p.lo) {n:Nat} (c:Hn n) (hc:Jr n w0.heap.size w0 c) (hN:(nodes (n+1) c.2).length<=2097152) (W2:World) (hW2:Below W.heap.size W W2):
    Calls Tryz.prog 6 #[.pointer (some ⟨p.b,0,none⟩),.agg #[.int .i64 c.1.1,.int .i64 c.1.2.1,.int .i64 c.1.2.2,.int .i64 c.2.1.1,.int .i64 c.2.1.2.1,.string c.2.1.2.2,.slice c.2.2.1.1 c.2.2.2.length c.2.2.1.2]] W2 fun e w'=>∃v,e=.returned (.int .i64 v)/\Hid (∃s' d',SyAt p s' d' w'/\s.more s'/\SyUn 201 402 d d' W w'/\Below w0.heap.size w0 w'):=by
 have hb2:=hb.trans (hW2.mono hb.size)
 have hx:=hc.2.below hb2
 refine((h.later hW2).do (kd:=c.1.1) (a:=c.1.2.1) (b:=c.1.2.2) ⟨hc.1.2.1,hc.1.2.2⟩ c.2 ⟨hx.mono hb2.size,(In.offBelow hx).mono fun q z z2=> ?_⟩ hN (by omega) (by omega) (by omega) (by omega)).mono ?_
 ·have:=(h.low q (by omega)).1
  omega
 ·rintro e w' ⟨v,rfl,H⟩
  obtain⟨_,d',k2,k3⟩:=H.out
  have hB:=k3.below (h.later hW2) (B:=w0.heap.size) hl
  exact⟨v,rfl,_,d',k2,Nq _ _ _ _ _ _ _ _ _,((SyUp.later d hW2).un.trans k3).mono (by omega) (by omega),hb2.trans hB⟩
theorem Ml (n:Nat) (l:List (Bh (n+1))) (la:Option Addr) (lc:Nat) (room:Int) (n1:Nat) (st:List (Sk n1)) (sa:Option Addr) (sc:Nat) (n2:Nat) (xs:List (Hn n2)) (xa:Option Addr) (xc:Nat) (n3:Nat) (ms:List (Hn n3)) (ma:Option Addr) (mc:Nat) (w:World)
    (hl:PgIn (n+1) w.heap.size w la l) (hlc:l.length<=lc) (hmx:lc<=maxLen) (hN:iZ (n+1) l=true->(nodes (n+6) (bM n l)).length<=2097152)
    (hs:Lay w.heap.size w 5 (Qy n1) (Nr n1 w.heap.size w) sa st) (hsN:∀c∈st,(nodes (n1+1) c.2).length<=2097152) (hx:Lay w.heap.size w 7 (Qh n2) (Jr n2 w.heap.size w) xa xs) (hxN:∀c∈xs,(nodes (n2+1) c.2).length<=2097152) (hm:Lay w.heap.size w 7 (Qh n3) (Jr n3 w.heap.size w) ma ms) (hmN:∀c∈ms,(nodes (n3+1) c.2).length<=2097152) (h1:st.length<=1048576) (h2:xs.length<=1048576) (h3:ms.length<=1048576):
    Calls Tryz.prog 3 #[.slice la l.length lc,.int .i64 room,.slice sa st.length sc,.slice xa xs.length xc,.slice ma ms.length mc] w fun e w'=>e=.returned (.bool true)/\Below w.heap.size w w':=by
 obtain⟨S,hS⟩:=ER st (⟨#[]⟩,((0,0,⟨#[]⟩),(none,0),[]))
 obtain⟨X,hX⟩:=ER xs ((0,0,0),((0,0,⟨#[]⟩),(none,0),[]))
 obtain⟨M,hM⟩:=ER ms ((0,0,0),((0,0,⟨#[]⟩),(none,0),[]))
 have hml:(maxLen:Nat)=9223372036854775807:=rfl
 have hcell:∀{W:World} {g o:Nat} {v:Value},Below w.heap.size w W->g<w.heap.size->w.cell? ⟨g,o,none⟩=some v->W.cell? ⟨g,o,none⟩=some v:=fun{W g o v} hb hg h=>(hb.cell (p:=⟨g,o,none⟩) hg).trans h
 refine Jq la l.length lc room sa st.length sc xa xs.length xc ma ms.length mc (fun j=>(X j).1.1) (fun j=>(X j).1.2.1) (fun j=>(X j).1.2.2) (fun j=>(X j).2.1.1) (fun j=>(X j).2.1.2.1) (fun j=>(X j).2.1.2.2) (fun j=>(X j).2.2.1.1) (fun j=>(X j).2.2.2.length) (fun j=>(X j).2.2.1.2) (fun j=>(M j).1.1) (fun j=>(M j).1.2.1) (fun j=>(M j).1.2.2) (fun j=>(M j).2.1.1) (fun j=>(M j).2.1.2.1) (fun j=>(M j).2.1.2.2) (fun j=>(M j).2.2.1.1) (fun j=>(M j).2.2.2.length) (fun j=>(M j).2.2.1.2) w
  (fun sb j W=>O3 w (4+j) sb W) (fun sb a L c j W=>QG w (4+xs.length+j) sb a L W) (fun sb a L c a' L' c' W=>Below w.heap.size w W/\∃b0 b1 fs gs,EvsAt b0 a fs W/\EvsAt b1 a' gs W/\fs.length=L/\gs.length=L'/\L<=L'/\L<=100000/\(gs.map IC).take L=fs.map IC) h2 h3 (CZ w) (fun W hW=> ?_) (fun sb j W h=> ?_) (fun sb a L c a' L' c' W h=>h.1) (fun sb j W hj hxm hK=> ?_) (fun sb W hxm hK=> ?_) (fun sb a L c j W hj hxm hK=> ?_) (fun sb a L c W hxm hK=> ?_) fun sb a L c a' L' c' W hK=> ?_
 ·have hsz:=hW.size
  refine(EM la l.length lc room sa st.length sc (fun j=>(S j).1) (fun j=>(S j).2.1.2.2) (fun j=>(S j).2.1.1) (fun j=>(S j).2.1.2.1) (fun j=>(S j).2.2.1.1) (fun j=>(S j).2.2.2.length) (fun j=>(S j).2.2.1.2) W (fun v u W'=>Pj n l room W v u W') (fun sb j W'=>st.length<=4/\O3 w j sb W') (fun v W'=>(v=.pointer none/\Below w.heap.size w W')∨∃sb,v=.pointer (some ⟨sb,0,none⟩)/\O3 w (4+0) sb W') (by omega) (Bz n l la lc room W ?_ hlc hmx hN) (fun v u W' hN1 hu=> ?_) (fun v W' hN1 h4=> ?_) (fun sb j W' hj hJ=> ?_) fun sb W' hJ=> ?_).mono ?_
  ·have L:=bi (dw (n+1)) 2 (nK (n+1)) la
   exact L.2.2.2.1 _ _ _ _ hsz (hl.below hW)
  ·exact Or.inl ⟨rfl,hW.trans (hN1.2.1.mono hsz)⟩
  ·obtain⟨p,d,rfl,q1,⟨q2,q3,q4,q5⟩,q6,q7,q8,q9⟩:=hN1.2.2.2 rfl
   exact⟨p.b,rfl,h4,p,PM,d,rfl,q1,⟨by omega,by rw[q3];exact Nat.zero_le _,by omega,by omega⟩,hW.trans (hN1.2.1.mono hsz),by omega⟩
  ·obtain⟨h4,p,s,d,rfl,k1,kb,hb,hlo⟩:=hJ
   obtain⟨g,o,e1,hg,hc,hI⟩:=DZ hs (hS j hj)
   refine⟨g,o,⟨e1,hcell hb hg (hc 0 _ rfl),hcell hb hg (hc 1 _ rfl),hcell hb hg (hc 2 _ rfl),hcell hb hg (hc 3 _ rfl),hcell hb hg (hc 4 _ rfl)⟩,fun W2 hW2=> ?_⟩
   have hb2:=hb.trans (hW2.mono hb.size)
   refine((k1.later hW2).start (S j).1 (Nat.le_trans hI.1 (Nat.le_of_eq hml)) (S j).2 ((hI.2.below hb2).mono hb2.size) (hsN _ (List.mem_of_getElem? (hS j hj))) (by omega) (by omega)).mono ?_
   rintro e w' ⟨v,u,rfl,H⟩
   obtain⟨_,d',r1,r2⟩:=H.out
   have hB:=r2.below (k1.later hW2) (B:=w.heap.size) hlo
   exact⟨v,u,rfl,h4,p,_,d',rfl,r1,by obtain⟨_,_,q1,q2,q3,q4⟩:=r2;omega,hb2.trans hB,hlo⟩
  ·obtain⟨h4,p,s,d,rfl,k1,kb,hb,hlo⟩:=hJ
   exact Or.inr ⟨_,rfl,p,s,d,rfl,k1,by omega,hb,hlo⟩
  ·rintro e w' ⟨v,rfl,H⟩
   rcases H.out with⟨rfl,hb⟩|⟨sb,rfl,h⟩
   ·exact Or.inl ⟨rfl,hb⟩
   ·exact Or.inr ⟨sb,rfl,h⟩
 ·obtain⟨p,s,d,_,_,_,hb,_⟩:=h
  exact hb
 ·obtain⟨p,s,d,rfl,k1,kb,hb,hlo⟩:=hK
  obtain⟨g,o,e1,hg,hc,hI⟩:=DZ hx (hX j hj)
  refine⟨g,o,⟨e1,hcell hb hg (hc 0 _ rfl),hcell hb hg (hc 1 _ rfl),hcell hb hg (hc 2 _ rfl),hcell hb hg (hc 3 _ rfl),hcell hb hg (hc 4 _ rfl),hcell hb hg (hc 5 _ rfl),hcell hb hg (hc 6 _ rfl)⟩,fun W2 hW2=> ?_⟩
  refine(OC k1 kb (by omega) hb hlo (X j) hI (hxN _ (List.mem_of_getElem? (hX j hj))) W2 hW2).mono ?_
  rintro e w' ⟨v,rfl,H⟩
  obtain⟨s',d',r1,r2,r3,r4⟩:=H.out
  exact⟨v,rfl,p,s',d',rfl,r1,by obtain⟨_,_,q1,q2,q3,q4⟩:=r3;omega,r4,hlo⟩
 ·obtain⟨p,s,d,rfl,k1,kb,hb,hlo⟩:=hK
  have hes:d.es.length<=100000:=by omega
  refine(k1.events hes).mono ?_
  rintro e w' ⟨a,c,rfl,H⟩
  obtain⟨r1,r2,fs,r3,r4,r5⟩:=H.out
  refine⟨a,_,c,rfl,by omega,p,s,d,fs,W.heap.size,w',d,rfl,k1.later r1,by omega,⟨hb.trans (r1.mono hb.size),hlo⟩,r3,⟨[],by rw[r4,List.append_nil]⟩,r5,Kee.refl _ _,fun _ _=>rfl,fun q z _=> ?_⟩
  by_cases z2:d.ow q=0
  ·exact z2
  ·have:=(k1.low q z2).2
   omega
 ·obtain⟨p,s,d,fs,b0,W1,d1,rfl,k1,kb,⟨hb,hlo⟩,u1,⟨r,u2⟩,u3,u4,u5,u6⟩:=hK
  obtain⟨g,o,e1,hg,hc,hI⟩:=DZ hm (hM j hj)
  refine⟨g,o,⟨e1,hcell hb hg (hc 0 _ rfl),hcell hb hg (hc 1 _ rfl),hcell hb hg (hc 2 _ rfl),hcell hb hg (hc 3 _ rfl),hcell hb hg (hc 4 _ rfl),hcell hb hg (hc 5 _ rfl),hcell hb hg (hc 6 _ rfl)⟩,fun W2 hW2=> ?_⟩
  refine(OC k1 kb (by omega) hb hlo (M j) hI (hmN _ (List.mem_of_getElem? (hM j hj))) W2 hW2).mono ?_
  rintro e w' ⟨v,rfl,H⟩
  obtain⟨s',d',r1,⟨r',r2⟩,r3,r4⟩:=H.out
  have hs4:=u4.size
  exact⟨v,rfl,p,s',d',fs,b0,W1,d1,rfl,r1,by obtain⟨_,_,q1,q2,q3,q4⟩:=r3;omega,⟨r4,hlo⟩,u1,⟨r++r',by rw[r2,u2,List.append_assoc]⟩,u3,u4.trans r3.1 fun q hq z=>by rw[u5 q hq]at z;exact z,fun q hq=>(r3.2.1 q (by omega)).trans (u5 q hq),u6⟩
 ·obtain⟨p,s,d,fs,b0,W1,d1,rfl,k1,kb,⟨hb,hlo⟩,u1,⟨r,u2⟩,u3,u4,u5,u6⟩:=hK
  have hes:d.es.length<=100000:=by omega
  refine(k1.events hes).mono ?_
  rintro e w' ⟨a',c',rfl,H⟩
  obtain⟨r1,r2,gs,r3,r4,r5⟩:=H.out
  have hlen:L<=d.es.length:=by
   rw[<-r3,<-u1]
   have:=congrArg List.length (r4.trans u2)
   simp only[List.length_append,List.length_map]at this
   omega
  refine⟨a',_,c',rfl,⟨hlen,by omega,r2⟩,hb.trans (r1.mono hb.size),b0,W.heap.size,fs,gs, ?_,r5,u1,r3,hlen,by omega, ?_⟩
  ·exact u3.kee (u4.trans (aj r1 fun _=>False) fun _ _ z=>z.elim) fun q z1 z2 z3=>z3 (u6 q z1 z2)
  ·rw[r4,u2,List.take_append_of_le_length (by rw[List.length_map];omega),List.take_of_length_le (by rw[List.length_map];omega)]
 ·obtain⟨_,b0,b1,fs,gs,v1,v2,v3,v4,v5,v6,v7⟩:=hK
  exact Eg b1 b0 a' a c' c L gs fs W v2 v1 ⟨by omega,v3⟩ (by omega) v7
theorem uA:(N n:Nat)->n<=N->(x:Tm n)->wt N (lift N n x)=wt n x
 | 0,0,_,_=>rfl
 | N+1,0,_,_=>by simp[lift,wt]
 | N+1,n+1,h,x=>by
  simp only[lift,wt,List.map_map]
  congr 2
  refine List.map_congr_left fun y _=> ?_
  exact uA N n (by omega) y
theorem Kq:(n:Nat)->(x:Tm n)->1<=wt n x
 | 0,_=>by simp[wt]
 | n+1,x=>by simp only[wt];omega
theorem pJ {α:Type} (f g:α->Nat) (c:Nat):(l:List α)->(∀y∈l,f y<=g y+c)->(l.map f).sum<=(l.map g).sum+l.length*c
 | [],_=>by simp
 | y::l,h=>by
  have h1:=h y (by simp)
  have h2:=pJ f g c l fun z hz=>h z (by simp[hz])
  simp only[List.map_cons,List.sum_cons,List.length_cons,Nat.add_mul,Nat.one_mul]
  omega
theorem lq (s:ByteArray) (N:Nat):wt (N+1) (aC s N)=1+s.size:=by simp[wt,aC]
theorem l9 (N:Nat) (l:List (Tm N)):wt (N+1) (bH N l)=1+(l.map (wt N)).sum:=by simp[wt,bH]
theorem NQ (k u:Int) (N:Nat):wt (N+1) (aF k u N)=1:=by simp[wt,aF]
theorem JI (n:Nat) (a:Ac (n+1)):wt (n+2) (bT n a)<=OD (n+1) a+8:=by
 have h1:=Kq (n+1) a.2.1.1
 have h2:=Kq (n+1) a.2.1.2
 have e1:iG.size=4:=rfl
 have e2:iR.size=5:=rfl
 have e3:lL.size=4:=rfl
 have e4:lI.size=4:=rfl
 unfold bT OD
 split
 ·rw[l9];simp only[List.map_cons,List.map_nil,List.sum_cons,List.sum_nil,lq];omega
 ·split
  ·rw[l9];simp only[List.map_cons,List.map_nil,List.sum_cons,List.sum_nil,lq,NQ];omega
  ·split
   ·rw[l9];simp only[List.map_cons,List.map_nil,List.sum_cons,List.sum_nil,lq];omega
   ·rw[l9];simp only[List.map_cons,List.map_nil,List.sum_cons,List.sum_nil,lq];omega
theorem JC (n:Nat) (c:Cl (n+1)) (h:sN (n+1) c=true):wt (n+4) (dL n c)<=Om (n+1) c+68:=by
 have e1:Fh.size=2:=rfl
 have hl:c.2.2.length<=8:=by
  simp only[sN,Bool.and_eq_true,decide_eq_true_eq]at h
  omega
 have hs:=pJ (fun a=>wt (n+2) (bT n a)) (OD (n+1)) 8 c.2.2 fun a _=>JI n a
 have l1:=uA (n+3) (n+1) (by omega) c.1.1
 have l2:=uA (n+3) (n+1) (by omega) c.1.2.1
 have l3:=uA (n+3) (n+1) (by omega) c.1.2.2
 unfold dL Om
 rw[l9]
 simp only[List.map_cons,List.map_nil,List.sum_cons,List.sum_nil,lq,l9,List.map_map,l1,l2,l3]
 have hs':(c.2.2.map (wt (n+2) ∘ bT n)).sum<=(c.2.2.map (OD (n+1))).sum+c.2.2.length*8:=hs
 omega
theorem LW (n:Nat) (b:Bh (n+1)) (h:wP (n+1) b=true):wt (n+5) (dF n b)<=ME (n+1) b+413:=by
 have e1:mq.size=3:=rfl
 simp only[wP,Bool.and_eq_true,decide_eq_true_eq,List.all_eq_true]at h
 have hs:(b.2.2.map (wt (n+4) ∘ dL n)).sum<=(b.2.2.map (Om (n+1))).sum+b.2.2.length*68:=pJ (fun a=>wt (n+4) (dL n a)) (Om (n+1)) 68 b.2.2 fun a ha=>JC n a (h.2 a ha)
 have hl:b.2.2.length<=6:=by omega
 unfold dF ME
 rw[l9]
 simp only[List.map_cons,List.sum_cons,lq,List.map_map]
 omega
theorem Mc (n:Nat) (p:List (Bh (n+1))) (h:iZ (n+1) p=true):wt (n+6) (bM n p)<=(p.map (ME (n+1))).sum+2897:=by
 have e1:iD.size=4:=rfl
 simp only[iZ,Bool.and_eq_true,decide_eq_true_eq,List.all_eq_true]at h
 have hs:(p.map (wt (n+5) ∘ dF n)).sum<=(p.map (ME (n+1))).sum+p.length*413:=pJ (fun a=>wt (n+5) (dF n a)) (ME (n+1)) 413 p fun a ha=>LW n a (h.2 a ha)
 have hl:p.length<=7:=by omega
 unfold bM
 rw[l9]
 simp only[List.map_cons,List.sum_cons,lq,List.map_map]
 omega
theorem Cj (n:Nat) (p:List (Bh (n+1))) (h:iZ (n+1) p=true) (hb:(p.map (ME (n+1))).sum<=1048576):(nodes (n+6) (bM n p)).length<=2097152:=by
 have h1:=qh (n+6) (bM n p)
 have h2:=Mc n p h
 omega
end Go.Proofs.YtmbjgiaebneodaaGreat
