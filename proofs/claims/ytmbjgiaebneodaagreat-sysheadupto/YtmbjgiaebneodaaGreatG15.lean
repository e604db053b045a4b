/- What is proved here: plain facts and contracts that the claimed theorem stands on. No condition but those that each names. -/
import Derived.Test.YtmbjgiaebneodaaGreatG14
import Derived.Maps.OwnSet
import Derived.StringKeys
import Derived.Maps.AppendAt
namespace Go.Proofs.YtmbjgiaebneodaaGreat
open Go.RowKit
open Go.RowKit Go.Maps
set_option maxRecDepth 100000
set_option maxHeartbeats 2000000
theorem Jz (k x0 x1:Int) (x2:ByteArray) (xa:Option Addr) (xl xc:Nat) (y0 y1:Int) (y2:ByteArray) (ya:Option Addr) (yl yc:Nat) (nm:ByteArray) (vr:Int) (db:Nat) (w:World) (R:Bool->World->Prop) (hdb:db<w.heap.size) (HF:Hid (∃u,w.cell? ⟨db,6,none⟩=some (.bool u)/\w.frozen? ⟨db,6,none⟩=false))
    (H1:Hid (k=1->∀W,Below w.heap.size w W->Calls Tryz.prog 124 #[.pointer (some ⟨db,0,none⟩),.agg #[.int .i64 k,.int .i64 x0,.int .i64 x1,.string x2,.slice xa xl xc,.int .i64 y0,.int .i64 y1,.string y2,.slice ya yl yc,.string nm,.int .i64 vr]] W fun e w'=>∃t,e=.returned (.bool t)/\Hid (R t w')))
    (H2:Hid (k=2->∀W,Below w.heap.size w W->Calls Tryz.prog 125 #[.pointer (some ⟨db,0,none⟩),.agg #[.int .i64 k,.int .i64 x0,.int .i64 x1,.string x2,.slice xa xl xc,.int .i64 y0,.int .i64 y1,.string y2,.slice ya yl yc,.string nm,.int .i64 vr]] W fun e w'=>∃t,e=.returned (.bool t)/\Hid (R t w')))
    (H3:Hid (k=3->∀W,Below w.heap.size w W->Calls Tryz.prog 126 #[.pointer (some ⟨db,0,none⟩),.agg #[.int .i64 k,.int .i64 x0,.int .i64 x1,.string x2,.slice xa xl xc,.int .i64 y0,.int .i64 y1,.string y2,.slice ya yl yc,.string nm,.int .i64 vr]] W fun e w'=>∃t,e=.returned (.bool t)/\Hid (R t w')))
    (H4:Hid (k≠1->k≠2->k≠3->∀W,Below w.heap.size w W->R true (W.setCell ⟨db,6,none⟩ (.bool true)))):
    Calls Tryz.prog 102 #[.pointer (some ⟨db,0,none⟩),.agg #[.int .i64 k,.int .i64 x0,.int .i64 x1,.string x2,.slice xa xl xc,.int .i64 y0,.int .i64 y1,.string y2,.slice ya yl yc,.string nm,.int .i64 vr]] w fun e w'=>∃t,e=.returned (.bool t)/\Hid (R t w'):=by
 have HW:Hid (∃w0 q,(w0=w.alloc (.cells #[.int .i64 k,.int .i64 x0,.int .i64 x1,.string x2,.slice xa xl xc,.int .i64 y0,.int .i64 y1,.string y2,.slice ya yl yc,.string nm,.int .i64 vr] 74)/\q=w.heap.size)/\Below w.heap.size w w0/\(w0.cell? ⟨q,0,none⟩=some (.int .i64 k)/\w0.cell? ⟨q,1,none⟩=some (.int .i64 x0)/\w0.cell? ⟨q,2,none⟩=some (.int .i64 x1)/\w0.cell? ⟨q,3,none⟩=some (.string x2)/\w0.cell? ⟨q,4,none⟩=some (.slice xa xl xc)/\w0.cell? ⟨q,5,none⟩=some (.int .i64 y0)/\w0.cell? ⟨q,6,none⟩=some (.int .i64 y1)/\w0.cell? ⟨q,7,none⟩=some (.string y2)/\w0.cell? ⟨q,8,none⟩=some (.slice ya yl yc)/\w0.cell? ⟨q,9,none⟩=some (.string nm)/\w0.cell? ⟨q,10,none⟩=some (.int .i64 vr))):=by
  have h:=heap_alloc_new w (.cells #[.int .i64 k,.int .i64 x0,.int .i64 x1,.string x2,.slice xa xl xc,.int .i64 y0,.int .i64 y1,.string y2,.slice ya yl yc,.string nm,.int .i64 vr] 74)
  exact⟨_,_,⟨rfl,rfl⟩,(Below.refl _ _).alloc (Nat.le_refl _) _,ae h 0,ae h 1,ae h 2,ae h 3,ae h 4,ae h 5,ae h 6,ae h 7,ae h 8,ae h 9,ae h 10⟩
 go_enter Tryz.func102,Tryz.ntmps102
 obtain⟨u,hu,hf⟩:=HF.out
 go_upto_region 1 with fail
 obtain⟨w0,q,⟨hw0,hq⟩,hb0,q0,q1,q2,q3,q4,q5,q6,q7,q8,q9,q10⟩:=HW.out
 rw[<-hw0,<-hq]
 have HB0:=hide hb0
 have HU:Hid (w0.cell? ⟨db,6,none⟩=some (.bool u)/\w0.frozen? ⟨db,6,none⟩=false):=by
  refine⟨(hb0.cell (p:=⟨db,6,none⟩) hdb).trans hu, ?_⟩
  unfold World.frozen? at hf ⊢
  rw[hb0.block db hdb]
  exact hf
 clear hw0 hq hb0 HW hu hf HF
 by_cases h1:k=1
 ·have HC:=hide (H1.out h1 w0 HB0.out)
  clear H1 H2 H3 H4
  subst h1
  go_wp2_with fail
  refine HC.out.mono ?_
  rintro e w2 ⟨t,rfl,HR⟩
  go_wp2_with fail
  go_ret
  exact⟨t,rfl,HR.out⟩
 ·by_cases h2:k=2
  ·have HC:=hide (H2.out h2 w0 HB0.out)
   clear H1 H2 H3 H4
   subst h2
   go_wp2_with fail
   refine HC.out.mono ?_
   rintro e w2 ⟨t,rfl,HR⟩
   go_wp2_with fail
   go_ret
   exact⟨t,rfl,HR.out⟩
  ·by_cases h3:k=3
   ·have HC:=hide (H3.out h3 w0 HB0.out)
    clear H1 H2 H3 H4
    subst h3
    go_wp2_with fail
    refine HC.out.mono ?_
    rintro e w2 ⟨t,rfl,HR⟩
    go_wp2_with fail
    go_ret
    exact⟨t,rfl,HR.out⟩
   ·have HR:=hide (H4.out h1 h2 h3 w0 HB0.out)
    obtain⟨u1,u2⟩:=HU.out
    have h1':¬(1:Int)=k:=fun e=>h1 e.symm
    have h2':¬(2:Int)=k:=fun e=>h2 e.symm
    have h3':¬(3:Int)=k:=fun e=>h3 e.symm
    clear H1 H2 H3 H4
    go_wp2_with fail
    go_ret
    exact⟨true,rfl,HR.out⟩
def PT {n:Nat} (a:Ac (n+1)):Value:=.agg #[.int .i64 a.1,.int .i64 a.2.1.1.1.1,.int .i64 a.2.1.1.1.2.1,.string a.2.1.1.1.2.2,.slice a.2.1.1.2.1.1 a.2.1.1.2.2.length a.2.1.1.2.1.2,.int .i64 a.2.1.2.1.1,.int .i64 a.2.1.2.1.2.1,.string a.2.1.2.1.2.2,.slice a.2.1.2.2.1.1 a.2.1.2.2.2.length a.2.1.2.2.1.2,.string a.2.2.1,.int .i64 a.2.2.2]
theorem Jw {n:Nat} (l:List (Ac (n+1))) (la:Option Addr) (L lc db:Nat) (w:World) (S:Nat->World->Prop) (F:World->Prop) (hL:L<=1000000) (HL:Hid (l.length=L))
    (HA:Hid (∀(i:Nat) (a:Ac (n+1)) W,l[i]? =some a->S i W->∃b o,la=some ⟨b,o,none⟩/\∀(j:Nat) (u:Value),(eG (n+1) a)[j]? =some u->W.cell? ⟨b,o+i*11+j,none⟩=some u))
    (HB:Hid (∀i W W',S i W->Below W.heap.size W W'->S i W'))
    (HO:Hid (∀(i:Nat) (a:Ac (n+1)) W,l[i]? =some a->S i W->Calls Tryz.prog 102 #[.pointer (some ⟨db,0,none⟩),PT a] W fun e w'=>∃t,e=.returned (.bool t)/\Hid ((t=true->S (i+1) w')/\(t=false->F w'))))
    (H0:Hid (S 0 w)):
    Calls Tryz.prog 82 #[.pointer (some ⟨db,0,none⟩),.slice la L lc] w fun e w'=>∃t,e=.returned (.bool t)/\Hid ((t=true->S L w')/\(t=false->F w')):=by
 go_enter Tryz.func82,Tryz.ntmps82
 go_wp2_with fail
 go_loopw [9] (fun i wr=>∃j:Nat,j<=L/\i=.int .i64 j/\Hid (S j wr)) (fun i _=>L-(intOf i).toNat)
 case atStart=>exact⟨0,Nat.zero_le _,rfl,H0.out⟩
 case round=>
  obtain⟨j,hj,rfl,HJ⟩:=hrel
  by_cases hjl:j<L
  ·obtain⟨a,ha⟩:∃a,l[j]? =some a:=⟨l[j]'(by rw[HL.out];exact hjl),List.getElem?_eq_getElem _⟩
   obtain⟨b,o,rfl,hc⟩:=HA.out j a wr ha HJ.out
   have x0:wr.cell? ⟨b,o+j*11,none⟩=some (.int .i64 a.1):=hc 0 _ rfl
   have x1:=hc 1 _ rfl
   have x2:=hc 2 _ rfl
   have x3:=hc 3 _ rfl
   have x4:=hc 4 _ rfl
   have x5:=hc 5 _ rfl
   have x6:=hc 6 _ rfl
   have x7:=hc 7 _ rfl
   have x8:=hc 8 _ rfl
   have x9:=hc 9 _ rfl
   have x10:=hc 10 _ rfl
   have j1:(0:Int)<=(j:Int):=by omega
   have j2:(j:Int)<(L:Int):=by omega
   have HC:=hide fun W (h:Below wr.heap.size wr W)=>HO.out j a W ha (HB.out _ _ _ HJ.out h)
   unfold PT at HC
   have HA1:Hid (∀o:Obj,Below wr.heap.size wr (wr.alloc o)):=fun o=>(Below.refl _ _).alloc (Nat.le_refl _) o
   clear hc ha
   go_wp2_with fail
   refine(HC.out _ (HA1.out _)).mono ?_
   rintro e w2 ⟨t,rfl,HT⟩
   cases t
   ·have HF:=hide (HT.out.2 rfl)
    go_wp2_with fail
    go_ret
    exact⟨false,rfl,fun h=>(by cases h),fun _=>HF.out⟩
   ·have HF:=hide (HT.out.1 rfl)
    go_wp2_with fail
    go_roundw
    case rel=>exact⟨j+1,by omega,by go_num,HF.out⟩
    case measure=>simp[intOf];omega
  ·obtain rfl:j=L:=by omega
   go_wp2_with fail
   go_ret
   exact⟨true,rfl,fun _=>HJ.out,fun h=>(by cases h)⟩
theorem Ch (N:Nat) (s0 s1:Int) (s2:ByteArray) (sa:Option Addr) (sl sc:Nat) (m0 m1:Int) (m2:ByteArray) (ma:Option Addr) (ml mc:Nat) (aa:Option Addr) (al ac:Nat) (n0 n1:Int) (n2:ByteArray) (na:Option Addr) (nl nc:Nat) (pb db:Nat) (w:World) (S:World->Prop) (V:Bool->Tm (N+1)->World->Prop) (G:Int->World->Prop)
    (HA:Hid (∀W,Below w.heap.size w W->Calls Tryz.prog 82 #[.pointer (some ⟨db,0,none⟩),.slice aa al ac] W fun e w'=>∃t,e=.returned (.bool t)/\Hid ((∀q ob,w.heap.size<=q->W.heap[q]? =some ob->w'.heap[q]? =some ob)/\(t=true->S w')/\(t=false->G 2 w'))))
    (HV:Hid (∀W,S W->Calls Tryz.prog 83 #[.pointer (some ⟨db,0,none⟩),.agg #[.int .i64 n0,.int .i64 n1,.string n2,.slice na nl nc]] W fun e w'=>∃(y:Tm (N+1)) (t:Bool),e=.returned (.tuple #[.agg #[.int .i64 y.1.1,.int .i64 y.1.2.1,.string y.1.2.2,.slice y.2.1.1 y.2.2.length y.2.1.2],.bool t])/\Hid (V t y w')))
    (HN:Hid (∀y W' W'',V false y W'->Below W'.heap.size W' W''->G 2 W''))
    (HB:Hid (∀y W' W'',V true y W'->Below W'.heap.size W' W''->Calls Tryz.prog 84 #[.pointer (some ⟨pb,0,none⟩),.agg #[.int .i64 y.1.1,.int .i64 y.1.2.1,.string y.1.2.2,.slice y.2.1.1 y.2.2.length y.2.1.2]] W'' fun e w'=>∃t,e=.returned (.bool t)/\Hid ((t=false->G 3 w')/\(t=true->∃st,w'.cell? ⟨db,6,none⟩=some (.bool st)/\(st=true->G 1 w')/\(st=false->G 0 w'))))):
    Calls Tryz.prog 58 #[.pointer (some ⟨pb,0,none⟩),.agg #[.int .i64 s0,.int .i64 s1,.string s2,.slice sa sl sc,.int .i64 m0,.int .i64 m1,.string m2,.slice ma ml mc,.slice aa al ac,.int .i64 n0,.int .i64 n1,.string n2,.slice na nl nc],.pointer (some ⟨db,0,none⟩)] w fun e w'=>∃f,e=.returned (.int .i64 f)/\G f w':=by
 have HW:Hid (∃w0 q ob,(w0=w.alloc ob/\q=w.heap.size/\ob=.cells #[.int .i64 s0,.int .i64 s1,.string s2,.slice sa sl sc,.int .i64 m0,.int .i64 m1,.string m2,.slice ma ml mc,.slice aa al ac,.int .i64 n0,.int .i64 n1,.string n2,.slice na nl nc] 77)/\Below w.heap.size w w0/\w0.heap[q]? =some ob/\w.heap.size<=q/\∀W:World,W.heap[q]? =some ob->W.cell? ⟨q,8,none⟩=some (.slice aa al ac)/\W.cell? ⟨q,9,none⟩=some (.int .i64 n0)/\W.cell? ⟨q,10,none⟩=some (.int .i64 n1)/\W.cell? ⟨q,11,none⟩=some (.string n2)/\W.cell? ⟨q,12,none⟩=some (.slice na nl nc)):=
  ⟨_,_,_,⟨rfl,rfl,rfl⟩,(Below.refl _ _).alloc (Nat.le_refl _) _,heap_alloc_new _ _,Nat.le_refl _,fun W h=>⟨ae h 8,ae h 9,ae h 10,ae h 11,ae h 12⟩⟩
 go_enter Tryz.func58,Tryz.ntmps58
 go_wp2_with fail
 obtain⟨w0,q,ob,⟨hw0,hq,hob⟩,hb0,hq0,hql,hc⟩:=HW.out
 rw[hob]at hw0
 rw[<-hw0]
 have HB0:=hide hb0
 have HC:=hide hc
 have HQ:=hide hq0
 have HQL:=hide hql
 rw[<-hq]
 clear hw0 hq hob hb0 hc hq0 hql HW
 refine(HA.out _ HB0.out).mono ?_
 rintro e w2 ⟨t,rfl,H2⟩
 obtain⟨c8,c9,c10,c11,c12⟩:=HC.out w2 (H2.out.1 q ob HQL.out HQ.out)
 cases t
 ·have HG:=hide (H2.out.2.2 rfl)
  go_wp2_with fail
  go_ret
  exact⟨2,rfl,HG.out⟩
 ·have HS:=hide (H2.out.2.1 rfl)
  clear H2 HA
  go_wp2_with fail
  refine(HV.out _ HS.out).mono ?_
  rintro e w3 ⟨y,t,rfl,H3⟩
  cases t
  ·have HG:=hide fun ob=>HN.out y w3 (w3.alloc ob) H3.out ((Below.refl _ _).alloc (Nat.le_refl _) ob)
   go_wp2_with fail
   go_ret
   exact⟨2,rfl,HG.out _⟩
  ·have HBC:=hide fun ob=>HB.out y w3 (w3.alloc ob) H3.out ((Below.refl _ _).alloc (Nat.le_refl _) ob)
   clear H3 HV HN HB
   go_wp2_with fail
   refine(HBC.out _).mono ?_
   rintro e w4 ⟨t,rfl,H4⟩
   cases t
   ·have HG:=hide (H4.out.1 rfl)
    go_wp2_with fail
    go_ret
    exact⟨3,rfl,HG.out⟩
   ·obtain⟨st,cs,h1,h0⟩:=H4.out.2 rfl
    cases st
    ·have HG:=hide (h0 rfl)
     clear h1 h0 H4
     go_wp2_with fail
     go_ret
     exact⟨0,rfl,HG.out⟩
    ·have HG:=hide (h1 rfl)
     clear h1 h0 H4
     go_wp2_with fail
     go_ret
     exact⟨1,rfl,HG.out⟩
structure HLoc where
 b:Nat
 o:Nat
 pre:List Value
 post:List Value
 t:TypeId
def HLoc.own (b:Nat):HLoc:=⟨b,0,[],[],130⟩
def HB (hp:HLoc) (room:Int) (tv lv mv:Value) (w:World):Prop:=(hp.pre.length=hp.o/\(hp.t=130∨hp.t=132))/\w.heap[hp.b]? =some (.cells (hp.pre++ .int .i64 room::tv::lv::mv::hp.post).toArray hp.t)
theorem HB.lt {hp:HLoc} {room:Int} {tv lv mv:Value} {w:World} (h:HB hp room tv lv mv w):hp.b<w.heap.size:=(Array.getElem?_eq_some_iff.1 h.2).1
theorem HB.cells {hp:HLoc} {room:Int} {tv lv mv:Value} {w:World} (h:HB hp room tv lv mv w):
    (w.cell? ⟨hp.b,hp.o,none⟩=some (.int .i64 room)/\w.cell? ⟨hp.b,hp.o+1,none⟩=some tv/\w.cell? ⟨hp.b,hp.o+2,none⟩=some lv/\w.cell? ⟨hp.b,hp.o+3,none⟩=some mv)/\∀j,w.frozen? ⟨hp.b,j,none⟩=false:=by
 obtain⟨⟨h0,_⟩,h1⟩:=h
 refine⟨⟨?_, ?_, ?_, ?_⟩,fun j=> ?_⟩
 all_goals simp[World.cell?,World.frozen?,h1,<-h0]
theorem HB.ty {hp:HLoc} {room:Int} {tv lv mv:Value} {w:World} (h:HB hp room tv lv mv w):hp.t≠9/\hp.t≠119:=by
 rcases h.1.2 with e|e<;>rw[e]<;>decide
theorem Fg {l:List Value} {hp:HLoc} {k:Nat} {room:Int} {tv lv mv v:Value} (h0:hp.pre.length=hp.o) (hl:l=(.int .i64 room::tv::lv::mv::hp.post).set k v):(hp.pre++ .int .i64 room::tv::lv::mv::hp.post).set (hp.o+k) v=hp.pre++l:=by
 subst hl
 rw[<-h0,List.set_append,if_neg (by omega),show hp.pre.length+k-hp.pre.length=k by omega]
theorem HB.set1 {hp:HLoc} {room:Int} {tv lv mv:Value} {w:World} (h:HB hp room tv lv mv w) (v:Value):HB hp room v lv mv (w.setCell ⟨hp.b,hp.o+1,none⟩ v):=by
 refine⟨h.1, ?_⟩
 have e:=Fg (k:=1) (room:=room) (tv:=tv) (lv:=lv) (mv:=mv) (v:=v) h.1.1 rfl
 simp only[List.set_cons_succ,List.set_cons_zero]at e
 simp[World.setCell,Array.getElem?_modify,h.2,e]
theorem HB.set2 {hp:HLoc} {room:Int} {tv lv mv:Value} {w:World} (h:HB hp room tv lv mv w) (v:Value):HB hp room tv v mv (w.setCell ⟨hp.b,hp.o+2,none⟩ v):=by
 refine⟨h.1, ?_⟩
 have e:=Fg (k:=2) (room:=room) (tv:=tv) (lv:=lv) (mv:=mv) (v:=v) h.1.1 rfl
 simp only[List.set_cons_succ,List.set_cons_zero]at e
 simp[World.setCell,Array.getElem?_modify,h.2,e]
theorem HB.set3 {hp:HLoc} {room:Int} {tv lv mv:Value} {w:World} (h:HB hp room tv lv mv w) (v:Value):HB hp room tv lv v (w.setCell ⟨hp.b,hp.o+3,none⟩ v):=by
 refine⟨h.1, ?_⟩
 have e:=Fg (k:=3) (room:=room) (tv:=tv) (lv:=lv) (mv:=mv) (v:=v) h.1.1 rfl
 simp only[List.set_cons_succ,List.set_cons_zero]at e
 simp[World.setCell,Array.getElem?_modify,h.2,e]
theorem HB.kept {hp:HLoc} {room:Int} {tv lv mv:Value} {w w':World} (h:HB hp room tv lv mv w) (k:w'.heap[hp.b]? =w.heap[hp.b]?):HB hp room tv lv mv w':=⟨h.1,k.trans h.2⟩
structure Keep (S:Nat->Prop) (w w':World):Prop where
 os:w'.os=w.os
 tape:w'.tape=w.tape
 output:w'.output=w.output
 size:w.heap.size<=w'.heap.size
 block:∀b,b<w.heap.size->¬S b->w'.heap[b]? =w.heap[b]?
theorem Keep.refl (S:Nat->Prop) (w:World):Keep S w w:=⟨rfl,rfl,rfl,Nat.le_refl _,fun _ _ _=>rfl⟩
theorem Keep.trans {S T:Nat->Prop} {w w1 w2:World} (h:Keep S w w1) (k:Keep T w1 w2) (hT:∀b,b<w.heap.size->T b->S b):Keep S w w2:=
 ⟨k.os.trans h.os,k.tape.trans h.tape,k.output.trans h.output,Nat.le_trans h.size k.size,fun b hb hs=>(k.block b (Nat.lt_of_lt_of_le hb h.size) (fun ht=>hs (hT b hb ht))).trans (h.block b hb hs)⟩
theorem Keep.mono {S T:Nat->Prop} {w w1:World} (h:Keep S w w1) (hT:∀b,S b->T b):Keep T w w1:=⟨h.os,h.tape,h.output,h.size,fun b hb hs=>h.block b hb fun k=>hs (hT b k)⟩
theorem aD {w w':World} (h:Below w.heap.size w w') (S:Nat->Prop):Keep S w w':=⟨h.os,h.tape,h.output,h.size,fun b hb _=>h.block b hb⟩
theorem Et {w w':World} {row:Option Nat} (h:w.grownBy w' row):Keep (fun b=>row=some b) w w':=⟨h.os,h.tape,h.output,h.size,fun b hb hs=>h.block b hb fun e=>hs e.symm⟩
theorem aI (w:World) (q o:Nat) (v:Value):Keep (fun b=>b=q) w (w.setCell ⟨q,o,none⟩ v):=
 ⟨rfl,rfl,rfl,by simp[World.setCell],fun b _ hne=>by
  have:¬q=b:=fun e=>hne e.symm
  simp[World.setCell,Array.getElem?_modify,this]⟩
def mapBlock:Value->Option Nat
 | .map (some b)=>some b
 | _=>none
theorem uI:Keyed Tryz.prog 9:=string_keyed Tryz.underlying9
theorem pI (w:World):(zeroValue 3).run Tryz.prog w=.ok (.int .i64 0) w:=by kernel_rfl
def strCells (l:List ByteArray):List Value:=l.map .string
def qZ (D:DataW Unit) (nm:List ByteArray):Prop:=∀s:ByteArray,(Maps.has D (.string s.data.toList)=true ↔ s∈nm)/\∀i:Nat,nm[i]? =some s->D.atKey (.string s.data.toList) (.lit (.int .i64 0))=.lit (.int .i64 i)
def NamesAt (base:Nat) (nm:List ByteArray) (lv mv:Value) (w:World):Prop:=
 w.ownsRow base 9 1 lv nm.length (strCells nm)/\nm.Nodup/\
 ((mv=.map none/\nm=[]/\lv=.slice none 0 0)∨∃mb D,mv=.map (some mb)/\base<=mb/\w.ownsMap Tryz.prog 9 (plainElem Tryz.prog 3) mb nm.length D/\qZ D nm/\lv.ownBlock≠some mb)
theorem NamesAt.kept {base:Nat} {nm:List ByteArray} {lv mv:Value} {w w':World} {S:Nat->Prop} (h:NamesAt base nm lv mv w) (k:Keep S w w') (h1:∀b,lv.ownBlock=some b->¬S b) (h2:∀b,mapBlock mv=some b->¬S b):NamesAt base nm lv mv w':=by
 obtain⟨k1,k2,k3⟩:=h
 have hrow:w'.ownsRow base 9 1 lv nm.length (strCells nm):=by
  refine⟨k1.1, ?_⟩
  rcases k1.2 with⟨e,e0⟩|⟨g,cap,cur,e,hg,hh,hr⟩
  ·exact Or.inl ⟨e,e0⟩
  ·exact Or.inr ⟨g,cap,cur,e,hg,(k.block g (Array.getElem?_eq_some_iff.1 hh).1 (h1 g (by rw[e];rfl))).trans hh,hr⟩
 refine⟨hrow,k2, ?_⟩
 rcases k3 with k3|⟨mb,D,rfl,hb,hm,hn,hne⟩
 ·exact Or.inl k3
 ·refine Or.inr ⟨mb,D,rfl,hb, ?_,hn,hne⟩
  obtain⟨es,clock,hh,hr⟩:=hm
  exact⟨es,clock,(k.block mb (Array.getElem?_eq_some_iff.1 hh).1 (h2 mb rfl)).trans hh,hr⟩
theorem Fv {D:DataW Unit} {nm:List ByteArray} (h:qZ D nm) {s:ByteArray} {c:Int} (hs:s∈nm) (hc:D.atKey (.string s.data.toList) (.lit (.int .i64 0))=.lit (.int .i64 c)):∃i:Nat,nm[i]? =some s/\c=i:=by
 obtain⟨i,hi⟩:=List.getElem?_of_mem hs
 have:=(h s).2 i hi
 rw[this]at hc
 simp at hc
 exact⟨i,hi,hc.symm⟩
theorem EL (hp:HLoc) (room:Int) (tv lv:Value) (mb:Nat) (D:DataW Unit) (nm:List ByteArray) (s:ByteArray) (w:World) (HBX:Hid (HB hp room tv lv (.map (some mb)) w)) (HM:Hid (w.ownsMap Tryz.prog 9 (plainElem Tryz.prog 3) mb nm.length D)) (HN:Hid (qZ D nm)) (hs:Hid (s∈nm)) (hsz:s.size<=2048):
    Calls Tryz.prog 96 #[.pointer (some ⟨hp.b,hp.o+2,none⟩),.string s] w fun e w'=>∃i:Nat,e=.returned (.int .i64 i)/\Hid (nm[i]? =some s)/\w'=w:=by
 have hhas:Maps.has D (.string s.data.toList)=true:=((HN.out s).1).2 hs.out
 obtain⟨⟨c0,c1,c2,c3⟩,hf⟩:=HBX.out.cells
 go_enter Tryz.func96,Tryz.ntmps96
 go_wp2_with (at_lookup;refine wpList_lookup_own_ok_int _ rfl _ _ 126 rfl 9 3 .i64 uI Tryz.underlying126 Tryz.underlying3 (pI _) mb nm.length D rfl HM.out _ _ rfl (Go.WideMaps.keyOf_string_mk Tryz.underlying9 (by unfold maxLen;omega)) ?_;intro c hat hwc;have HI:=hide (Fv HN.out hs.out hat);clear hat hwc;rw[hhas])
 obtain⟨i,hi,rfl⟩:=HI.out
 go_ret
 exact⟨i,rfl,hi,rfl⟩
def qj (base:Nat) (hp:HLoc) (room:Int) (tv lv mv:Value) (nm:List ByteArray) (s:ByteArray) (w w':World) (lv' mv':Value):Prop:=
 HB hp room tv lv' mv' w'/\NamesAt base (nm++ [s]) lv' mv' w'/\Keep (fun b=>b=hp.b∨lv.ownBlock=some b∨mapBlock mv=some b) w w'/\
 (∀b,lv'.ownBlock=some b->lv.ownBlock=some b∨w.heap.size<=b)/\∀b,mapBlock mv'=some b->mapBlock mv=some b∨w.heap.size<=b
theorem uN:(Tryz.prog.info? 9).map (fun i=>(i.zero,i.size,i.bytes))=some (some (.string .empty),1,16):=by kernel_rfl
theorem FY (l:List UInt8):WideAt.IsKeyLit (.string l):=by first|trivial|simp[WideAt.IsKeyLit]|decide
theorem AY {base:Nat} {hp:HLoc} {room:Int} {tv lv:Value} {mb:Nat} {D:DataW Unit} {nm:List ByteArray} {s:ByteArray} {w w1 w2 w4:World} {o:Obj} {g c:Nat} (hB:HB hp room tv lv (.map (some mb)) w) (hmb:base<=mb) (hnd:nm.Nodup) (hn:qZ D nm) (hs:s∉nm) (hsz:s.size<=maxLen) (hlm:lv.ownBlock≠some mb)
    (hrow:w.ownsRow base 9 1 lv nm.length (strCells nm)) (hm:w.ownsMap Tryz.prog 9 (plainElem Tryz.prog 3) mb nm.length D)
    (hb:Below w.heap.size w w1) (hown:w2.ownsRow base 9 1 (.slice (some ⟨g,0,none⟩) (nm.length+1) c) (nm.length+1) (strCells nm++ [.string s])) (hg:(w1.alloc o).grownBy w2 lv.ownBlock) (hat:lv.ownBlock=some g∨g=w1.heap.size+1)
    (hm4:w4.ownsMap Tryz.prog 9 (plainElem Tryz.prog 3) mb (nm.length+1) (D.put (.string s.data.toList) (.lit (.int .i64 nm.length)))) (hg4:(w2.setCell ⟨hp.b,hp.o+2,none⟩ (.slice (some ⟨g,0,none⟩) (nm.length+1) c)).grownBy w4 (some mb)):
    qj base hp room tv lv (.map (some mb)) nm s w w4 (.slice (some ⟨g,0,none⟩) (nm.length+1) c) (.map (some mb)):=by
 have hhp:=hB.lt
 have hmbl:=hm.lt
 have hs1:=hb.size
 have es:(w1.alloc o).heap.size=w1.heap.size+1:=by simp
 have hgs:=hg.size
 have hpm:hp.b≠mb:=by
  rintro rfl
  obtain⟨es,clock,hh,_⟩:=hm
  have h2:w.heap[hp.b]? =_:=hB.2
  rw[hh]at h2
  cases h2
 have hpl:lv.ownBlock≠some hp.b:=fun e=>by
  rcases hrow.2 with⟨rfl,_⟩|⟨g',cap,cur,rfl,_,hh,_⟩
  ·simp[Value.ownBlock]at e
  ·simp[Value.ownBlock]at e
   subst e
   have h2:w.heap[hp.b]? =_:=hB.2
   rw[hh]at h2
   injection h2 with h2
   injection h2 with h2 h3
   exact hB.ty.1 h3.symm
 have hlt:∀b,lv.ownBlock=some b->b<w.heap.size:=fun b e=>(hrow.lt b e).2
 have hgp:g≠hp.b:=by
  rintro rfl
  rcases hat with e|e
  ·exact hpl e
  ·omega
 have hgm:g≠mb:=by
  rintro rfl
  rcases hat with e|e
  ·exact hlm e
  ·omega
 have h2:∀b,b<w.heap.size->lv.ownBlock≠some b->w2.heap[b]? =w.heap[b]? :=fun b hb' hne=>((hg.block b (by omega) (fun e=>hne e.symm)).trans ((World.grownBy_alloc w1 o none).block b (by omega) (by simp))).trans (hb.block b hb')
 have k3:=aI w2 hp.b (hp.o+2) (.slice (some ⟨g,0,none⟩) (nm.length+1) c)
 have k3s:=k3.size
 have k4s:=hg4.size
 have hB2:HB hp room tv lv (.map (some mb)) w2:=hB.kept (h2 hp.b hhp hpl)
 have hB3:=hB2.set2 (.slice (some ⟨g,0,none⟩) (nm.length+1) c)
 have hB4:HB hp room tv (.slice (some ⟨g,0,none⟩) (nm.length+1) c) (.map (some mb)) w4:=hB3.kept (hg4.block hp.b (by omega) (fun e=>hpm (Option.some.inj e)))
 refine⟨hB4,⟨?_, ?_,Or.inr ⟨mb,_,rfl,hmb,by simpa using hm4, ?_, ?_⟩⟩,⟨?_, ?_, ?_, ?_, ?_⟩, ?_, ?_⟩
 ·have e:strCells (nm++ [s])=strCells nm++ [.string s]:=by simp[strCells]
  rw[e,List.length_append]
  have hk3:w2.grownBy (w2.setCell ⟨hp.b,hp.o+2,none⟩ (.slice (some ⟨g,0,none⟩) (nm.length+1) c)) (some hp.b):=⟨rfl,rfl,rfl,k3s,fun b hb' hne=>k3.block b hb' (fun e=>hne (by rw[e]))⟩
  refine World.ownsRow.kept (World.ownsRow.kept hown hk3 (Or.inr ?_)) hg4 (Or.inr ?_)
  ·simp only[Value.ownBlock]
   exact fun e=>hgp (Option.some.inj e)
  ·simp only[Value.ownBlock]
   exact fun e=>hgm (Option.some.inj e)
 ·rw[List.nodup_append]
  refine⟨hnd,by simp,fun a ha b hb'=> ?_⟩
  simp at hb'
  subst hb'
  exact fun e=>hs (e▸ha)
 ·intro t
  by_cases ht:t=s
  ·subst ht
   refine⟨?_,fun i hi=> ?_⟩
   ·rw[has_put_same hm.isMap (FY _)]
    simp
   ·rw[atKey_put_same hm.isMap (FY _)]
    have:i=nm.length:=by
     by_cases hlt:i<nm.length
     ·rw[List.getElem?_append_left hlt]at hi
      exact absurd (List.mem_of_getElem? hi) hs
     ·have:=(List.getElem?_eq_some_iff.1 hi).1
      simp at this
      omega
    rw[this]
  ·have hne:(Lit.string t.data.toList)≠(Lit.string s.data.toList):=fun e=>ht (by
     injection e with e
     cases t;cases s
     simp only at e
     rw[Array.toList_inj.1 e])
   refine⟨?_,fun i hi=> ?_⟩
   ·rw[has_put_other hne,(hn t).1]
    simp[ht]
   ·rw[atKey_put_other hne]
    refine(hn t).2 i ?_
    by_cases hlt:i<nm.length
    ·rw[List.getElem?_append_left hlt]at hi
     exact hi
    ·have h1:=(List.getElem?_eq_some_iff.1 hi).1
     simp at h1
     have:i=nm.length:=by omega
     subst this
     simp at hi
     exact absurd hi.symm ht
 ·simp only[Value.ownBlock]
  exact fun e=>hgm (Option.some.inj e)
 ·exact(hg4.os.trans hg.os).trans hb.os
 ·exact(hg4.tape.trans hg.tape).trans hb.tape
 ·exact(hg4.output.trans hg.output).trans hb.output
 ·omega
 ·intro b hb' hne
  simp only[mapBlock,not_or]at hne
  exact(hg4.block b (by omega) (fun e=>hne.2.2 e.symm)).trans ((k3.block b (by omega) hne.1).trans (h2 b hb' hne.2.1))
 ·intro b e
  simp only[Value.ownBlock]at e
  obtain rfl:=Option.some.inj e
  rcases hat with e|e
  ·exact Or.inl e
  ·exact Or.inr (by omega)
 ·exact fun b e=>Or.inl e
theorem vk (w:World) (s:ByteArray):∀j u,[Value.string s][j]? =some u->(w.alloc (.cells #[.string s] 9)).cell? ((⟨w.heap.size,0,none⟩:Addr).add j)=some u:=by
 intro j u hj
 rw[dX]
 cases j with
 | zero=>simp at hj;subst hj;simp[go_sem]
 | succ j=>simp at hj
theorem Cg {base:Nat} {hp:HLoc} {room:Int} {tv lv lv' mv:Value} {nm:List Value} {n:Nat} {w:World} (hrow:w.ownsRow base 9 1 lv n nm) (hB:HB hp room tv lv' mv w):lv.ownBlock≠some hp.b:=fun e=>by
 rcases hrow.2 with⟨rfl,_⟩|⟨g',cap,cur,rfl,_,hh,_⟩
 ·simp[Value.ownBlock]at e
 ·simp[Value.ownBlock]at e
  subst e
  have h2:w.heap[hp.b]? =_:=hB.2
  rw[hh]at h2
  injection h2 with h2
  injection h2 with h2 h3
  exact hB.ty.1 h3.symm
theorem sD {hp:HLoc} {lv v:Value} {w1 w2:World} {o:Obj} (hlt:hp.b<w1.heap.size) (hne:lv.ownBlock≠some hp.b) (hg:(w1.alloc o).grownBy w2 lv.ownBlock) (hf:∀j,w1.frozen? ⟨hp.b,j,none⟩=false) (hc:w1.cell? ⟨hp.b,hp.o+2,none⟩=some v):w2.cell? ⟨hp.b,hp.o+2,none⟩=some v/\w2.frozen? ⟨hp.b,hp.o+2,none⟩=false:=by
 have h:w2.heap[hp.b]? =w1.heap[hp.b]? :=(hg.block hp.b (by simp;omega) (fun e=>hne e.symm)).trans ((World.grownBy_alloc w1 o none).block hp.b hlt (by simp))
 exact⟨(aK h _).trans hc,(World.frozen?_of_block (a:=⟨hp.b,hp.o+2,none⟩) h).trans (hf _)⟩
theorem sU {hp:HLoc} {lv v:Value} {w1 w2:World} {o:Obj} (hlt:hp.b<w1.heap.size) (hne:lv.ownBlock≠some hp.b) (hg:(w1.alloc o).grownBy w2 lv.ownBlock) (hc:w1.cell? ⟨hp.b,hp.o+3,none⟩=some v):w2.cell? ⟨hp.b,hp.o+3,none⟩=some v:=by
 have h:w2.heap[hp.b]? =w1.heap[hp.b]? :=(hg.block hp.b (by simp;omega) (fun e=>hne e.symm)).trans ((World.grownBy_alloc w1 o none).block hp.b hlt (by simp))
 exact(aK h _).trans hc
theorem ym {hp:HLoc} {mb L:Nat} {lv:Value} {D:DataW Unit} {w1 w2:World} {o:Obj} (hm:w1.ownsMap Tryz.prog 9 (plainElem Tryz.prog 3) mb L D) (hpm:hp.b≠mb) (hlm:lv.ownBlock≠some mb) (hg:(w1.alloc o).grownBy w2 lv.ownBlock) (v:Value):(w2.setCell ⟨hp.b,hp.o+2,none⟩ v).ownsMap Tryz.prog 9 (plainElem Tryz.prog 3) mb L D:=
 (((hm.alloc o).kept hg (fun e=>hlm e.symm))).setCell (a:=⟨hp.b,hp.o+2,none⟩) (fun e=>hpm e.symm) v
theorem EX (base:Nat) (hp:HLoc) (room:Int) (tv lv:Value) (la:Option Addr) (lc L:Nat) (mb:Nat) (D:DataW Unit) (nm:List ByteArray) (s:ByteArray) (w:World) (hlv:lv=.slice la L lc) (HL:Hid (nm.length=L)) (hL:L<=100000) (HBX:Hid (HB hp room tv lv (.map (some mb)) w)) (hmb:Hid (base<=mb)) (hbw:base<=w.heap.size) (hnd:Hid (nm.Nodup)) (HM:Hid (w.ownsMap Tryz.prog 9 (plainElem Tryz.prog 3) mb L D)) (HN:Hid (qZ D nm)) (hs:Hid (s∉nm)) (hsz:s.size<=2048) (hlm:Hid (lv.ownBlock≠some mb)) (HR:Hid (w.ownsRow base 9 1 lv L (strCells nm))):
    Calls Tryz.prog 96 #[.pointer (some ⟨hp.b,hp.o+2,none⟩),.string s] w fun e w'=>e=.returned (.int .i64 L)/\∃lv' mv',Hid (qj base hp room tv lv (.map (some mb)) nm s w w' lv' mv'):=by
 subst hlv
 have hhas:Maps.has D (.string s.data.toList)=false:=by
  cases h:Maps.has D (.string s.data.toList)
  ·rfl
  ·exact absurd (((HN.out s).1).1 h) hs.out
 obtain⟨it,hit,htz0,htz1,htz2⟩:=info_parts uN
 have HT:=hide (⟨hit,htz0,htz1,htz2⟩:_/\_/\_/\_)
 clear hit htz0 htz1 htz2
 obtain⟨⟨c0,c1,c2,c3⟩,hf⟩:=HBX.out.cells
 have hq:∀(w:World) (r:Option Nat),(binOp .eql 126 (.map r) (.map none)).run Tryz.prog w=.ok (.bool r.isNone) w:=fun w r=>run_eql_map_nil w _ _ _ r Tryz.underlying126
 go_enter Tryz.func96,Tryz.ntmps96
 go_wp2_with (at_lookup;refine wpList_lookup_own_ok_int _ rfl _ _ 126 rfl 9 3 .i64 uI Tryz.underlying126 Tryz.underlying3 (pI _) mb L D rfl HM.out _ _ rfl (Go.WideMaps.keyOf_string_mk Tryz.underlying9 (by unfold maxLen;omega)) ?_;intro c hat hwc;clear hat hwc;rw[hhas])
 refine(cB s _ hsz).mono ?_
 rintro e w1 ⟨rfl,hb1⟩
 have hhp:hp.b<w.heap.size:=HBX.out.lt
 have HB1:=hide hb1
 obtain⟨⟨d0,d1,d2,d3⟩,hf1⟩:=(HBX.out.kept (hb1.block hp.b hhp)).cells
 have hhp1:hp.b<w1.heap.size:=Nat.lt_of_lt_of_le hhp hb1.size
 have HMP:Hid (hp.b≠mb):=by
  rintro rfl
  obtain⟨es,clock,hh,_⟩:=HM.out
  have h2:w.heap[hp.b]? =_:=HBX.out.2
  rw[hh]at h2
  cases h2
 have HPL:Hid ((Value.slice la L lc).ownBlock≠some hp.b):=Cg HR.out HBX.out
 have HM1:Hid (w1.ownsMap Tryz.prog 9 (plainElem Tryz.prog 3) mb L D):=HM.out.kept (bB hb1 none) (by simp)
 clear hb1 c0 c1 c2 c3 hf
 go_wp2_with (first
  | (at_builtin;refine wpList_append_lies _ rfl _ _ 125 rfl base 9 it _ 1 16 Tryz.underlying125 HT.out.1 HT.out.2.1 HT.out.2.2.1 HT.out.2.2.2 rfl (by decide) _ L _ rfl ((own_below HR.out HB1.out).alloc _) ⟨w1.heap.size,0,none⟩ 1 1 [.string s] rfl rfl (vk w1 s) (by intro u hu;simp at hu;subst hu;rfl) (by decide) (by unfold maxLen;omega) (by omega) (by have:=HB1.out.size;simp;omega) (w1.heap.size+1) (by simp) ?_;intro g2 c2 w2 hown2 hgrow2 hat2 hlt2;have H2:=hide (⟨hown2,hgrow2,hat2,hlt2⟩:_/\_/\_/\_);obtain⟨e2,f2⟩:=sD hhp1 HPL.out hgrow2 hf1 d2;have e3:=sU hhp1 HPL.out hgrow2 d3;have HM2:=hide (ym HM1.out HMP.out hlm.out hgrow2 (.slice (some ⟨g2,0,none⟩) (L+1) c2));clear hown2 hgrow2 hat2 hlt2)
  | (at_mapUpdate;refine wpList_mapUpdate_own _ rfl _ _ _ 126 rfl 9 3 uI Tryz.underlying126 (plainElem Tryz.prog 3) mb L D rfl HM2.out (by unfold maxLen;omega) _ _ _ rfl rfl (Go.WideMaps.keyOf_string_mk Tryz.underlying9 (by unfold maxLen;omega)) (.lit (.int .i64 L)) [] (plainElem_int Tryz.underlying3 (WalkArith.wf_i64 (by omega))) ?_;intro w4 hown4 hgrow4;have H4:=hide (⟨hown4,hgrow4⟩:_/\_);clear hown4 hgrow4))
 go_ret
 have hl:=HL.out
 subst hl
 exact⟨rfl,_,_,AY HBX.out hmb.out hnd.out HN.out hs.out (by unfold maxLen;omega) hlm.out HR.out HM.out HB1.out H2.out.1 H2.out.2.1 H2.out.2.2.1 H4.out.1 H4.out.2⟩
theorem DX {base:Nat} {hp:HLoc} {room:Int} {tv lv lv' mv':Value} {s:ByteArray} {w wA w4:World} (h:qj base hp room tv lv (.map (some w.heap.size)) [] s wA w4 lv' mv') (k:Keep (fun b=>b=hp.b) w wA) (hs:wA.heap.size=w.heap.size+1):qj base hp room tv lv (.map none) [] s w w4 lv' mv':=by
 obtain⟨h1,h2,h3,h4,h5⟩:=h
 refine⟨h1,h2, ?_, ?_, ?_⟩
 ·refine(k.mono fun b hb=>Or.inl hb).trans h3 fun b hb hT=> ?_
  rcases hT with e|e|e
  ·exact Or.inl e
  ·exact Or.inr (Or.inl e)
  ·simp only[mapBlock]at e
   have:=Option.some.inj e
   omega
 ·intro b e
  rcases h4 b e with e|e
  ·exact Or.inl e
  ·exact Or.inr (by omega)
 ·intro b e
  rcases h5 b e with e|e
  ·simp only[mapBlock]at e
   have:=Option.some.inj e
   exact Or.inr (by omega)
  ·exact Or.inr (by omega)
theorem Lc:qZ (.map []) []:=fun s=>⟨by simp[Maps.has],fun i hi=>by simp at hi⟩
theorem zC (base:Nat) (hp:HLoc) (room:Int) (tv lv:Value) (s:ByteArray) (w:World) (hlv:lv=.slice none 0 0) (HBX:Hid (HB hp room tv lv (.map none) w)) (hbw:base<=w.heap.size) (hsz:s.size<=2048):
    Calls Tryz.prog 96 #[.pointer (some ⟨hp.b,hp.o+2,none⟩),.string s] w fun e w'=>e=.returned (.int .i64 0)/\∃lv' mv',Hid (qj base hp room tv lv (.map none) [] s w w' lv' mv'):=by
 subst hlv
 obtain⟨it,hit,htz0,htz1,htz2⟩:=info_parts uN
 have HT:=hide (⟨hit,htz0,htz1,htz2⟩:_/\_/\_/\_)
 clear hit htz0 htz1 htz2
 obtain⟨⟨c0,c1,c2,c3⟩,hf⟩:=HBX.out.cells
 have hhp:hp.b<w.heap.size:=HBX.out.lt
 have hq:∀(w:World) (r:Option Nat),(binOp .eql 126 (.map r) (.map none)).run Tryz.prog w=.ok (.bool r.isNone) w:=fun w r=>run_eql_map_nil w _ _ _ r Tryz.underlying126
 have hln:(Instr.lookup 126 (.map none) (.string s) true).run Tryz.prog w=.ok (.tuple #[.int .i64 0,.bool false]) w:=by
  simpa using Maps.look_nil (w:=w) true uI Tryz.underlying126 (pI _) (Go.WideMaps.keyOf_string_mk Tryz.underlying9 (show s.size<=maxLen by unfold maxLen;omega))
 have hmm:= @run_makeMap Tryz.prog
 go_enter Tryz.func96,Tryz.ntmps96
 go_wp2_with fail
 generalize hwA:(w.setCell ⟨hp.b,hp.o+3,none⟩ (.map (some w.heap.size))).alloc (.map #[] 0)=wA
 have HWA:Hid (HB hp room tv (.slice none 0 0) (.map (some w.heap.size)) wA/\wA.ownsMap Tryz.prog 9 (plainElem (H:=Unit) Tryz.prog 3) w.heap.size 0 (.map [])/\Keep (fun b=>b=hp.b) w wA/\wA.heap.size=w.heap.size+1):=by
  subst hwA
  have es:(w.setCell ⟨hp.b,hp.o+3,none⟩ (.map (some w.heap.size))).heap.size=w.heap.size:=by simp[World.setCell]
  have hm:=World.ownsMap_made (w.setCell ⟨hp.b,hp.o+3,none⟩ (.map (some w.heap.size))) Tryz.prog 9 (plainElem (H:=Unit) Tryz.prog 3)
  rw[es]at hm
  refine⟨(HBX.out.set3 (.map (some w.heap.size))).kept ((World.grownBy_alloc _ _ none).block hp.b (by rw[es];exact hhp) (by simp)),hm,⟨rfl,rfl,rfl,by simp[World.setCell],fun b hb hne=> ?_⟩,by simp[World.setCell]⟩
  exact((World.grownBy_alloc _ _ none).block b (by rw[es];exact hb) (by simp)).trans ((aI w hp.b (hp.o+3) (.map (some w.heap.size))).block b hb hne)
 clear hwA c0 c1 c2 c3 hf hln hmm
 refine(cB s _ hsz).mono ?_
 rintro e w1 ⟨rfl,hb1⟩
 have hhpA:hp.b<wA.heap.size:=HWA.out.1.lt
 have HB1:=hide hb1
 obtain⟨⟨d0,d1,d2,d3⟩,hf1⟩:=(HWA.out.1.kept (hb1.block hp.b hhpA)).cells
 have hhp1:hp.b<w1.heap.size:=Nat.lt_of_lt_of_le hhpA hb1.size
 have HMP:Hid (hp.b≠w.heap.size):=by unfold Hid;omega
 have HPL:Hid ((Value.slice none 0 0).ownBlock≠some hp.b):=by simp[Hid,Value.ownBlock]
 have HM1:Hid (w1.ownsMap Tryz.prog 9 (plainElem (H:=Unit) Tryz.prog 3) w.heap.size 0 (.map [])):=HWA.out.2.1.kept (bB hb1 none) (by simp)
 have HBS:Hid (base<=w1.heap.size):=by have h1:=HWA.out.2.2.2;have h2:=hb1.size;unfold Hid;omega
 clear hb1
 go_wp2_with (first
  | (at_builtin;refine wpList_append_lies _ rfl _ _ 125 rfl base 9 it _ 1 16 Tryz.underlying125 HT.out.1 HT.out.2.1 HT.out.2.2.1 HT.out.2.2.2 rfl (by decide) _ 0 [] rfl (World.ownsRow_nil _ _ _ _) ⟨w1.heap.size,0,none⟩ 1 1 [.string s] rfl rfl (vk w1 s) (by intro u hu;simp at hu;subst hu;rfl) (by decide) (by unfold maxLen;omega) (by omega) (by have:=HBS.out;simp;omega) (w1.heap.size+1) (by simp) ?_;intro g2 c2 w2 hown2 hgrow2 hat2 hlt2;have H2:=hide (⟨hown2,hgrow2,hat2,hlt2⟩:_/\_/\_/\_);obtain⟨e2,f2⟩:=sD hhp1 HPL.out hgrow2 hf1 d2;have e3:=sU hhp1 HPL.out hgrow2 d3;have HM2:=hide (ym (lv:=.slice none 0 0) HM1.out HMP.out (by simp[Value.ownBlock]) hgrow2 (.slice (some ⟨g2,0,none⟩) (0+1) c2));clear hown2 hgrow2 hat2 hlt2)
  | (at_mapUpdate;refine wpList_mapUpdate_own _ rfl _ _ _ 126 rfl 9 3 uI Tryz.underlying126 (plainElem Tryz.prog 3) w.heap.size 0 (.map []) rfl HM2.out (by unfold maxLen;omega) _ _ _ rfl rfl (Go.WideMaps.keyOf_string_mk Tryz.underlying9 (by unfold maxLen;omega)) (.lit (.int .i64 0)) [] (plainElem_int Tryz.underlying3 (WalkArith.wf_i64 (by omega))) ?_;intro w4 hown4 hgrow4;have H4:=hide (⟨hown4,hgrow4⟩:_/\_);clear hown4 hgrow4))
 go_ret
 have hnn:=AY (nm:=[]) HWA.out.1 hbw (by simp) Lc (by simp) (show s.size<=maxLen by unfold maxLen;omega) (by simp[Value.ownBlock]) (World.ownsRow_nil _ _ _ _) HWA.out.2.1 HB1.out H2.out.1 H2.out.2.1 H2.out.2.2.1 H4.out.1 H4.out.2
 exact⟨rfl,_,_,DX hnn HWA.out.2.2.1 HWA.out.2.2.2⟩
theorem Dx (base:Nat) (hp:HLoc) (room:Int) (tv lv mv:Value) (nm:List ByteArray) (s:ByteArray) (w:World) (hB:HB hp room tv lv mv w) (hN:NamesAt base nm lv mv w) (hbw:base<=w.heap.size) (hL:nm.length<=100000) (hsz:s.size<=2048):
    Calls Tryz.prog 96 #[.pointer (some ⟨hp.b,hp.o+2,none⟩),.string s] w fun e w'=>∃i:Nat,e=.returned (.int .i64 i)/\∃nm' lv' mv',Hid (nm'[i]? =some s/\(nm'=nm∨nm'=nm++ [s])/\HB hp room tv lv' mv' w'/\NamesAt base nm' lv' mv' w'/\Keep (fun b=>b=hp.b∨lv.ownBlock=some b∨mapBlock mv=some b) w w'/\
     (∀b,lv'.ownBlock=some b->lv.ownBlock=some b∨w.heap.size<=b)/\∀b,mapBlock mv'=some b->mapBlock mv=some b∨w.heap.size<=b):=by
 obtain⟨h1,h2,h3⟩:=hN
 rcases h3 with⟨rfl,rfl,hlv⟩|⟨mb,D,rfl,hmb,hm,hn,hlm⟩
 ·refine(zC base hp room tv lv s w hlv hB hbw hsz).mono ?_
  rintro e w' ⟨rfl,lv',mv',H⟩
  obtain⟨k1,k2,k3,k4,k5⟩:=H.out
  exact⟨0,rfl,[s],lv',mv',rfl,Or.inr rfl,k1,k2,k3,k4,k5⟩
 ·by_cases hs:s∈nm
  ·refine(EL hp room tv lv mb D nm s w hB hm hn hs hsz).mono ?_
   rintro e w' ⟨i,rfl,hi,rfl⟩
   exact⟨i,rfl,nm,lv,.map (some mb),hi.out,Or.inl rfl,hB,⟨h1,h2,Or.inr ⟨mb,D,rfl,hmb,hm,hn,hlm⟩⟩,Keep.refl _ _,fun b e=>Or.inl e,fun b e=>Or.inl e⟩
  ·obtain⟨la,lc,hlv⟩:∃la lc,lv=.slice la nm.length lc:=by
     rcases h1.2 with⟨e,e0⟩|⟨g,c,cur,e,_⟩
     ·exact⟨none,0,by rw[e,e0]⟩
     ·exact⟨_,c,e⟩
   refine(EX base hp room tv lv la lc nm.length mb D nm s w hlv rfl hL hB hmb hbw h2 hm hn hs hsz hlm h1).mono ?_
   rintro e w' ⟨rfl,lv',mv',H⟩
   obtain⟨k1,k2,k3,k4,k5⟩:=H.out
   exact⟨nm.length,rfl,nm++ [s],lv',mv',by simp,Or.inr rfl,k1,k2,k3,k4,k5⟩
abbrev Wd:=Int×Int
def wd2 (x:Wd):List Value:=[.int .i64 x.1,.int .i64 x.2]
def az (l:List Wd):List Value:=l.flatMap wd2
theorem bf (l:List Wd):(az l).length=l.length*2:=by
 induction l with
 | nil=>rfl
 | cons a l ih=>
  have:az (a::l)=wd2 a++az l:=rfl
  rw[this,List.length_append,ih,List.length_cons]
  have:(wd2 a).length=2:=rfl
  omega
theorem nX (l r:List Wd):az (l++r)=az l++az r:=by simp[az]
theorem oU (l:List Wd):∀u∈az l,u.oneCell'=true:=by
 intro u hu
 simp only[az,List.mem_flatMap]at hu
 obtain⟨a,_,hu⟩:=hu
 simp[wd2]at hu
 rcases hu with rfl|rfl<;>rfl
theorem gJ (l:List Wd) (k:Nat) (x:Wd) (hx:l[k]? =some x) (j:Nat) (hj:j<2):(az l)[k*2+j]? =(wd2 x)[j]? :=by
 induction l generalizing k with
 | nil=>simp at hx
 | cons y l ih=>
  have e:az (y::l)=wd2 y++az l:=rfl
  have hy:(wd2 y).length=2:=rfl
  rw[e]
  cases k with
  | zero=>
   simp at hx
   subst hx
   rw[List.getElem?_append_left (by omega)]
   simp
  | succ k=>
   rw[List.getElem?_append_right (by omega),hy,show (k+1)*2+j-2=k*2+j by omega]
   exact ih k (by simpa using hx)
theorem jJ:(Tryz.prog.info? 119).map (fun i=>(i.zero,i.size,i.bytes))=some (some (.agg #[.int .i64 0,.int .i64 0]),2,16):=by kernel_rfl
theorem LG (w:World) (x:Wd):∀j u,(wd2 x)[j]? =some u->(w.alloc (.cells #[.int .i64 x.1,.int .i64 x.2] 119)).cell? ((⟨w.heap.size,0,none⟩:Addr).add j)=some u:=by
 intro j u hj
 rw[dX]
 have:j<2:=(List.getElem?_eq_some_iff.1 hj).1
 have h4:j=0∨j=1:=by omega
 rcases h4 with rfl|rfl<;>simp[wd2]at hj<;>subst hj<;>simp[go_sem]
theorem MS (x:Wd):∀u∈wd2 x,u.oneCell'=true:=by
 intro u hu
 simp[wd2]at hu
 rcases hu with rfl|rfl<;>rfl
theorem rW {P:Program} (w:World) (t u ty e e':TypeId) (ht:P.underlying t=some (.slice e)) (hu:P.underlying u=some (.slice e')) (i:TypeInfo) (hi:P.info? e=some i) (b xa:Option Addr) (n c m xc:Nat):(Builtin.append_ #[t,u] ty #[.slice b n c,.slice xa m xc]).run P w=(Builtin.append_ #[t,t] ty #[.slice b n c,.slice xa m xc]).run P w:=by
 simp[Builtin.append_,run_underlying ht,run_underlying hu,sizeOf,typeInfo,hi,Builtin.lenOf]
theorem lN {P:Program} (w:World) (t u ty e e':TypeId) (i:TypeInfo) (ht:P.underlying t=some (.slice e)) (hu:P.underlying u=some (.slice e')) (hi:P.info? e=some i) (b xa:Option Addr) (n cap xc:Nat) (hle:n<=cap):
    (Builtin.append_ #[t,u] ty #[.slice b n cap,.slice xa 0 xc]).run P w=.ok (.slice b n cap) w:=by
 have hld:∀a:Addr,(loadCells a 0).run P w=.ok #[] w:=fun a=>run_loadCells_list (P:=P) w a [] (fun j v h=>by simp at h)
 cases b<;>cases xa<;>simp[Builtin.append_,run_underlying ht,run_underlying hu,sizeOf,typeInfo,hi,Builtin.lenOf,Builtin.firstCells,hle,storeCells,hld]
def dO (w:World) (ps:List Wd) (xa:Option Addr):Prop:=ps=[]∨∃ad,xa=some ad/\∀j u,(az ps)[j]? =some u->w.cell? (ad.add j)=some u
theorem rC {base:Nat} {v:Value} {n m xc:Nat} {xs:List Value} {ps:List Wd} {xa:Option Addr} {w:World} (ty:TypeId) (hown:w.ownsRow base 119 2 v n xs) (hs:dO w ps xa) (hm:ps.length=m) (h63:n+m<=200000) (hbase:base<=w.heap.size):
    ∃v' w',(Builtin.append_ #[124,123] ty #[v,.slice xa m xc]).run Tryz.prog w=.ok v' w'/\w'.ownsRow base 119 2 v' (n+m) (xs++az ps)/\w.grownBy w' v.ownBlock/\(v'.ownBlock=v.ownBlock∨v'.ownBlock=some w.heap.size):=by
 obtain⟨it,hit,htz0,htz1,htz2⟩:=info_parts jJ
 rcases hs with rfl|⟨ad,rfl,hc⟩
 ·obtain rfl:m=0:=hm.symm
  obtain⟨b,cap,hv,hle⟩:∃b cap,v=.slice b n cap/\n<=cap:=by
   rcases hown.2 with⟨rfl,rfl⟩|⟨g,cap,cur,rfl,_,_,h,_⟩
   ·exact⟨none,0,rfl,Nat.le_refl _⟩
   ·exact⟨_,cap,rfl,h⟩
  subst hv
  refine⟨_,w,lN w _ _ ty _ _ it Tryz.underlying124 Tryz.underlying123 hit b xa n cap xc hle,by simpa [az]using hown,World.grownBy.refl _ _,Or.inl rfl⟩
 ·obtain⟨b,cap,hv⟩:∃b cap,v=.slice b n cap:=by
    rcases hown.2 with⟨rfl,rfl⟩|⟨g,cap,cur,rfl,_⟩
    ·exact⟨none,0,rfl⟩
    ·exact⟨_,cap,rfl⟩
  subst hv
  rw[rW w _ _ ty _ _ Tryz.underlying124 Tryz.underlying123 it hit]
  obtain⟨v',w',h1,h2,h3,_,h5⟩:=run_append_own_at (P:=Tryz.prog) w base 124 ty 119 it _ 2 16 Tryz.underlying124 hit htz0 htz1 htz2 rfl (by decide) _ n xs hown ad m xc (az ps) (by rw[bf,hm]) hc (oU _) (by unfold maxLen;omega) (by omega) hbase
  exact⟨v',w',h1,h2,h3,h5⟩
theorem nO {w:World} {ops:Array Oper} {rest:List Oper} {o:Oper} {a:Act} {Q:Exit->Act->World->Prop} (hgd:o.guard=none) (s x:Operand) (ho:o.op=.call {callee:=.builtin .append,args:= #[s,x],argTypes:= #[124,123]})
    {base:Nat} {v:Value} {n m xc:Nat} {xs:List Value} {ps:List Wd} {xa:Option Addr} (hs:a.eval s=v) (hx:a.eval x=.slice xa m xc) (hown:w.ownsRow base 119 2 v n xs) (hw:dO w ps xa) (hm:ps.length=m) (h63:n+m<=200000) (hbase:base<=w.heap.size)
    (hK:∀v' w',w'.ownsRow base 119 2 v' (n+m) (xs++az ps)->w.grownBy w' v.ownBlock->(v'.ownBlock=v.ownBlock∨v'.ownBlock=some w.heap.size)->wpList Tryz.prog ops Q rest (a.put o.dst v') w'):wpList Tryz.prog ops Q (o::rest) a w:=
 wpList_plain hgd fun K hK'=>by
  obtain⟨v',w',hr,h2,h3,h5⟩:=rC (xc:=xc) o.type hown hw hm h63 hbase
  unfold Oper.wp execOp
  simp only[ho,resolve,invoke,builtin,Sem.run_bind,Sem.run_pure,Result.andThen_ok,List.map_toArray,List.map_cons,List.map_nil,hs,hx,hr]
  exact hK' _ _ (hK v' w' h2 h3 h5)
def Oy (base pb po:Nat) (tv:Value) (ws ps:List Wd) (w w':World) (tv':Value):Prop:=
 w'.ownsRow base 119 2 tv' (ws.length+1+ps.length) (az (ws++(0,(ps.length:Int))::ps))/\w'.heap[pb]? =(w.setCell ⟨pb,po,none⟩ tv').heap[pb]? /\
 Keep (fun b=>b=pb∨tv.ownBlock=some b) w w'/\∀b,tv'.ownBlock=some b->(tv.ownBlock=some b∨w.heap.size<=b)
theorem GN {pb po:Nat} {v:Value} {w w2:World} {o o1:Obj} {row:Option Nat} (hlt:pb<w.heap.size) (hne:row≠some pb) (hg:((w.alloc o).alloc o1).grownBy w2 row) (hc:w.cell? ⟨pb,po,none⟩=some v) (hf:w.frozen? ⟨pb,po,none⟩=false):w2.cell? ⟨pb,po,none⟩=some v/\w2.frozen? ⟨pb,po,none⟩=false/\pb<w2.heap.size:=by
 have e:((w.alloc o).alloc o1).heap.size=w.heap.size+2:=by simp
 have h:w2.heap[pb]? =w.heap[pb]? :=((hg.block pb (by omega) (fun e=>hne e.symm)).trans ((World.grownBy_alloc (w.alloc o) o1 none).block pb (by simp;omega) (by simp))).trans ((World.grownBy_alloc w o none).block pb hlt (by simp))
 have:=hg.size
 exact⟨(aK h po).trans hc,(World.frozen?_of_block (a:=⟨pb,po,none⟩) h).trans hf,by omega⟩
theorem add_mid {base pb:Nat} {tv:Value} {L g2 c2:Nat} {ys:List Value} {ps:List Wd} {pa:Option Addr} {w w2:World} {o o1:Obj} (hpb:pb<w.heap.size) (hbw:base<=w.heap.size) (hne:tv.ownBlock≠some pb)
    (hown:w2.ownsRow base 119 2 (.slice (some ⟨g2,0,none⟩) (L+1) c2) (L+1) ys) (hg:((w.alloc o).alloc o1).grownBy w2 tv.ownBlock) (hat:tv.ownBlock=some g2∨g2=w.heap.size+2) (po:Nat)
    (hs:∀w1,Keep (fun b=>b=pb∨tv.ownBlock=some b) w w1->dO w1 ps pa):
    (w2.setCell ⟨pb,po,none⟩ (.slice (some ⟨g2,0,none⟩) (L+1) c2)).ownsRow base 119 2 (.slice (some ⟨g2,0,none⟩) (L+1) c2) (L+1) ys/\dO (w2.setCell ⟨pb,po,none⟩ (.slice (some ⟨g2,0,none⟩) (L+1) c2)) ps pa/\base<=(w2.setCell ⟨pb,po,none⟩ (.slice (some ⟨g2,0,none⟩) (L+1) c2)).heap.size:=by
 have hgp:g2≠pb:=by
  rintro rfl
  rcases hat with e|e
  ·exact hne e
  ·omega
 have e:((w.alloc o).alloc o1).heap.size=w.heap.size+2:=by simp
 have hgs:=hg.size
 have k3:=aI w2 pb po (.slice (some ⟨g2,0,none⟩) (L+1) c2)
 have hk:Keep (fun b=>b=pb∨tv.ownBlock=some b) w (w2.setCell ⟨pb,po,none⟩ (.slice (some ⟨g2,0,none⟩) (L+1) c2)):=by
  refine⟨?_, ?_, ?_, ?_, ?_⟩
  ·exact hg.os
  ·exact hg.tape
  ·exact hg.output
  ·have:=k3.size;omega
  ·intro b hb hnb
   simp only[not_or]at hnb
   exact(k3.block b (by omega) hnb.1).trans (((hg.block b (by omega) (fun e=>hnb.2 e.symm)).trans ((World.grownBy_alloc (w.alloc o) o1 none).block b (by simp;omega) (by simp))).trans ((World.grownBy_alloc w o none).block b hb (by simp)))
 refine⟨World.ownsRow.kept hown (row:=some pb) ⟨rfl,rfl,rfl,k3.size,fun b hb' hne=>k3.block b hb' (fun e=>hne (by rw[e]))⟩ (Or.inr ?_),hs _ hk,by have:=k3.size;omega⟩
 simp only[Value.ownBlock]
 exact fun e=>hgp (Option.some.inj e)
theorem Lm {base pb po:Nat} {tv:Value} {L g2 c2:Nat} {xs:List Value} {w w2 w4:World} {o1:Obj} {v0 v1 u:Value} {n2:Nat} (hpb:pb<w.heap.size) (hr:w.ownsRow base 119 2 tv L xs) (hne:tv.ownBlock≠some pb) (hg:((w.alloc (.cells #[v0,v1] 119)).alloc o1).grownBy w2 tv.ownBlock) (hat:tv.ownBlock=some g2∨g2=w.heap.size+2)
    (hg4:(w2.setCell ⟨pb,po,none⟩ (.slice (some ⟨g2,0,none⟩) n2 c2)).grownBy w4 (Value.slice (some ⟨g2,0,none⟩) n2 c2).ownBlock) (hc:w2.cell? ⟨pb,po,none⟩=some u) (hf:w2.frozen? ⟨pb,po,none⟩=false):
    (w4.cell? ⟨w.heap.size,0,none⟩=some v0/\w4.cell? ⟨w.heap.size,1,none⟩=some v1)/\(w4.frozen? ⟨w.heap.size,0,none⟩=false/\w4.frozen? ⟨w.heap.size,1,none⟩=false)/\w4.cell? ⟨pb,po,none⟩=some (.slice (some ⟨g2,0,none⟩) n2 c2)/\w4.frozen? ⟨pb,po,none⟩=false:=by
 have hlt:∀b,tv.ownBlock=some b->b<w.heap.size:=fun b e=>(hr.lt b e).2
 have e:((w.alloc (.cells #[v0,v1] 119)).alloc o1).heap.size=w.heap.size+2:=by simp
 have hgs:=hg.size
 have k3:=aI w2 pb po (.slice (some ⟨g2,0,none⟩) n2 c2)
 have k3s:=k3.size
 have hgw:g2≠w.heap.size:=by
  rintro rfl
  rcases hat with e|e
  ·have:=hlt _ e;omega
  ·omega
 have hgp:g2≠pb:=by
  rintro rfl
  rcases hat with e|e
  ·exact hne e
  ·omega
 have h4:∀b,b<w2.heap.size->b≠g2->w4.heap[b]? =(w2.setCell ⟨pb,po,none⟩ (.slice (some ⟨g2,0,none⟩) n2 c2)).heap[b]? :=fun b hb hn=>hg4.block b (by omega) (fun e=>hn (Option.some.inj e))
 have hbox:w4.heap[w.heap.size]? =some (.cells #[v0,v1] 119):=by
  refine(h4 _ (by omega) (fun e=>hgw e.symm)).trans ((k3.block _ (by omega) (by omega)).trans ((hg.block _ (by omega) (fun e=>by have:=hlt _ e.symm;omega)).trans (((World.grownBy_alloc (w.alloc (.cells #[v0,v1] 119)) o1 none).block _ (by simp) (by simp)).trans (heap_alloc_new w _))))
 have hp4:=h4 pb (by omega) (fun e=>hgp e.symm)
 refine⟨⟨by simp[World.cell?,hbox],by simp[World.cell?,hbox]⟩,⟨by simp[World.frozen?,hbox],by simp[World.frozen?,hbox]⟩, ?_, ?_⟩
 ·rw[aK hp4 po]
  simp[go_sem,hc]
 ·rw[World.frozen?_of_block (a:=⟨pb,po,none⟩) hp4]
  simp[go_sem,hf]
theorem KS (w:World) (q o:Nat) (u v:Value):((w.setCell ⟨q,o,none⟩ u).setCell ⟨q,o,none⟩ v).heap[q]? =(w.setCell ⟨q,o,none⟩ v).heap[q]? :=by
 simp only[World.setCell,Array.getElem?_modify,if_true]
 cases w.heap[q]? with
 | none=>rfl
 | some x=>cases x<;>simp
theorem yB {w w':World} {q:Nat} (h:w'.heap[q]? =w.heap[q]?) (o:Nat) (v:Value):(w'.setCell ⟨q,o,none⟩ v).heap[q]? =(w.setCell ⟨q,o,none⟩ v).heap[q]? :=by
 simp only[World.setCell,Array.getElem?_modify,if_true,h]
theorem MQ {base pb po:Nat} {tv:Value} {g2 c2 g4 c4:Nat} {ws ps:List Wd} {w w2 w4:World} {o0 o1:Obj} {u0 u1:Value} (hpb:pb<w.heap.size) (hr:w.ownsRow base 119 2 tv ws.length (az ws)) (hne:tv.ownBlock≠some pb)
    (hg:((w.alloc o0).alloc o1).grownBy w2 tv.ownBlock) (hat:tv.ownBlock=some g2∨g2=w.heap.size+2)
    (hown:w4.ownsRow base 119 2 (.slice (some ⟨g4,0,none⟩) (ws.length+1+ps.length) c4) (ws.length+1+ps.length) (az ws++wd2 (0,(ps.length:Int))++az ps))
    (hg4:(w2.setCell ⟨pb,po,none⟩ (.slice (some ⟨g2,0,none⟩) (ws.length+1) c2)).grownBy w4 (Value.slice (some ⟨g2,0,none⟩) (ws.length+1) c2).ownBlock)
    (hat4:(Value.slice (some ⟨g4,0,none⟩) (ws.length+1+ps.length) c4).ownBlock=(Value.slice (some ⟨g2,0,none⟩) (ws.length+1) c2).ownBlock∨(Value.slice (some ⟨g4,0,none⟩) (ws.length+1+ps.length) c4).ownBlock=some (w2.setCell ⟨pb,po,none⟩ (.slice (some ⟨g2,0,none⟩) (ws.length+1) c2)).heap.size):
    Oy base pb po tv ws ps w (((w4.setCell ⟨pb,po,none⟩ (.slice (some ⟨g4,0,none⟩) (ws.length+1+ps.length) c4)).setCell ⟨w.heap.size,0,none⟩ u0).setCell ⟨w.heap.size,1,none⟩ u1) (.slice (some ⟨g4,0,none⟩) (ws.length+1+ps.length) c4):=by
 have hlt:∀b,tv.ownBlock=some b->b<w.heap.size:=fun b e=>(hr.lt b e).2
 have e:((w.alloc o0).alloc o1).heap.size=w.heap.size+2:=by simp
 have hgs:=hg.size
 have k3:=aI w2 pb po (.slice (some ⟨g2,0,none⟩) (ws.length+1) c2)
 have k3s:=k3.size
 have hg4s:=hg4.size
 have hgw:g2≠w.heap.size:=by
  rintro rfl
  rcases hat with e|e
  ·have:=hlt _ e;omega
  ·omega
 have hgp:g2≠pb:=by
  rintro rfl
  rcases hat with e|e
  ·exact hne e
  ·omega
 have h44:g4=g2∨w.heap.size+2<=g4:=by
  rcases hat4 with e4|e4
  ·exact Or.inl (by simpa [Value.ownBlock]using e4)
  ·have e5:g4=(w2.setCell ⟨pb,po,none⟩ (.slice (some ⟨g2,0,none⟩) (ws.length+1) c2)).heap.size:=by
     simp only[Value.ownBlock]at e4
     exact Option.some.inj e4
   exact Or.inr (by omega)
 have h4w:g4≠w.heap.size:=by omega
 have h4p:g4≠pb:=by omega
 have h2:∀b,b<w.heap.size->tv.ownBlock≠some b->w2.heap[b]? =w.heap[b]? :=fun b hb hn=>((hg.block b (by omega) (fun e=>hn e.symm)).trans ((World.grownBy_alloc (w.alloc o0) o1 none).block b (by simp;omega) (by simp))).trans ((World.grownBy_alloc w o0 none).block b hb (by simp))
 have h4:∀b,b<w2.heap.size->b≠g2->w4.heap[b]? =(w2.setCell ⟨pb,po,none⟩ (.slice (some ⟨g2,0,none⟩) (ws.length+1) c2)).heap[b]? :=fun b hb hn=>hg4.block b (by omega) (fun e=>hn (Option.some.inj e))
 have k5:=aI w4 pb po (.slice (some ⟨g4,0,none⟩) (ws.length+1+ps.length) c4)
 have k6:=aI (w4.setCell ⟨pb,po,none⟩ (.slice (some ⟨g4,0,none⟩) (ws.length+1+ps.length) c4)) w.heap.size 0 u0
 have k7:=aI ((w4.setCell ⟨pb,po,none⟩ (.slice (some ⟨g4,0,none⟩) (ws.length+1+ps.length) c4)).setCell ⟨w.heap.size,0,none⟩ u0) w.heap.size 1 u1
 have s5:=k5.size
 have s6:=k6.size
 have s7:=k7.size
 have h7:∀b,b<w4.heap.size->b≠w.heap.size->(((w4.setCell ⟨pb,po,none⟩ (.slice (some ⟨g4,0,none⟩) (ws.length+1+ps.length) c4)).setCell ⟨w.heap.size,0,none⟩ u0).setCell ⟨w.heap.size,1,none⟩ u1).heap[b]? =(w4.setCell ⟨pb,po,none⟩ (.slice (some ⟨g4,0,none⟩) (ws.length+1+ps.length) c4)).heap[b]? :=fun b hb hn=>(k7.block b (by omega) hn).trans (k6.block b (by omega) hn)
 refine⟨?_, ?_,⟨?_, ?_, ?_, ?_, ?_⟩, ?_⟩
 ·have ec:az (ws++(0,(ps.length:Int))::ps)=az ws++wd2 (0,(ps.length:Int))++az ps:=by simp[az]
  rw[ec]
  obtain⟨x1,x2⟩:=hown
  refine⟨x1, ?_⟩
  rcases x2 with⟨x2,_⟩|⟨g',cap,cur,hv,hb,hh,hr'⟩
  ·simp at x2
  ·injection hv with e1 e2 e3
   injection e1 with e1
   injection e1 with e1 _
   subst e1 e3
   have hlt4:=(Array.getElem?_eq_some_iff.1 hh).1
   exact Or.inr ⟨g4,c4,cur,rfl,hb,(h7 g4 hlt4 h4w).trans ((k5.block g4 hlt4 h4p).trans hh),hr'⟩
 ·refine(h7 pb (by omega) (by omega)).trans ((yB (h4 pb (by omega) (fun e=>hgp e.symm)) po _).trans ((KS w2 pb po _ _).trans (yB (h2 pb hpb hne) po _)))
 ·exact hg4.os.trans hg.os
 ·exact hg4.tape.trans hg.tape
 ·exact hg4.output.trans hg.output
 ·omega
 ·intro b hb hn
  simp only[not_or]at hn
  have hb2:b≠g2:=by
   rintro rfl
   rcases hat with e|e
   ·exact hn.2 e
   ·omega
  exact(h7 b (by omega) (by omega)).trans ((k5.block b (by omega) hn.1).trans ((h4 b (by omega) hb2).trans ((k3.block b (by omega) hn.1).trans (h2 b hb hn.2))))
 ·intro b eb
  simp only[Value.ownBlock]at eb
  obtain rfl:=Option.some.inj eb
  rcases h44 with e|e
  ·rw[e]
   rcases hat with e'|e'
   ·exact Or.inl e'
   ·exact Or.inr (by omega)
  ·exact Or.inr (by omega)
theorem BC (base pb po:Nat) (tv:Value) (ta:Option Addr) (tc L:Nat) (ws ps:List Wd) (m pc:Nat) (pa:Option Addr) (w:World) (htv:tv=.slice ta L tc) (HL:Hid (ws.length=L)) (HM:Hid (ps.length=m)) (hL:L<=100000) (hM:m<=1000) (hbw:base<=w.heap.size)
    (c0:w.cell? ⟨pb,po,none⟩=some tv) (f0:w.frozen? ⟨pb,po,none⟩=false) (hpb:pb<w.heap.size) (hne:Hid (tv.ownBlock≠some pb)) (HR:Hid (w.ownsRow base 119 2 tv L (az ws)))
    (HS:Hid (∀w1,Keep (fun b=>b=pb∨tv.ownBlock=some b) w w1->dO w1 ps pa)):
    Calls Tryz.prog 97 #[.pointer (some ⟨pb,po,none⟩),.slice pa m pc] w fun e w'=>e=.returned (.agg #[.int .i64 4,.int .i64 L])/\∃tv',Hid (Oy base pb po tv ws ps w w' tv'):=by
 subst htv
 obtain⟨it,hit,htz0,htz1,htz2⟩:=info_parts jJ
 have HT:=hide (⟨hit,htz0,htz1,htz2⟩:_/\_/\_/\_)
 clear hit htz0 htz1 htz2
 go_enter Tryz.func97,Tryz.ntmps97
 go_wp2_with (first
  | (at_builtin;refine wpList_append_lies _ rfl _ _ 124 rfl base 119 it _ 2 16 Tryz.underlying124 HT.out.1 HT.out.2.1 HT.out.2.2.1 HT.out.2.2.2 rfl (by decide) _ L _ rfl ((HR.out.alloc _).alloc _) ⟨w.heap.size+1,0,none⟩ 1 1 (wd2 (0,(m:Int))) rfl rfl (by have:=LG (w.alloc (.cells #[.int .i64 0,.int .i64 0] 119)) (0,(m:Int));simpa using this) (MS _) (by decide) (by unfold maxLen;omega) (by omega) (by simp;omega) (w.heap.size+2) (by simp) ?_;intro g2 c2 w2 hown2 hgrow2 hat2 hlt2;have H2:=hide (⟨hown2,hgrow2,hat2,hlt2⟩:_/\_/\_/\_);obtain⟨e2,f2,hlt2'⟩:=GN hpb hne.out hgrow2 c0 f0;have H3:=hide (add_mid hpb hbw hne.out hown2 hgrow2 hat2 po HS.out);clear hown2 hgrow2 hat2 hlt2)
  | (at_builtin;refine nO rfl _ _ rfl (base:=base) (n:=L+1) rfl rfl H3.out.1 H3.out.2.1 HM.out (by omega) H3.out.2.2 ?_;intro tv4 w4 hown4 hgrow4 hat4;obtain⟨g4,c4,rfl,_,_⟩:=hown4.form (by omega);have H4:=hide (⟨hown4,hgrow4,hat4⟩:_/\_/\_);obtain⟨⟨k0,k1⟩,kf,e4,f4⟩:=Lm hpb HR.out hne.out H2.out.2.1 H2.out.2.2.1 hgrow4 e2 f2;clear hown4 hgrow4 hat4))
 have hl:=HL.out
 have hm:=HM.out
 subst hl hm
 exact bodyPost_ret (v:=.agg #[.int .i64 4,.int .i64 ws.length]) (by simp[results,Tryz.results97,go_sem,k0,k1]) rfl ⟨rfl,_,MQ hpb HR.out hne.out H2.out.2.1 H2.out.2.2.1 H4.out.1 H4.out.2.1 H4.out.2.2⟩
end Go.Proofs.YtmbjgiaebneodaaGreat
