/- What is proved here: plain facts and contracts that the claimed theorem stands on. No condition but those that each names. -/
import Derived.Test.YtmbjgiaebneodaaGreatG32
namespace Go.Proofs.YtmbjgiaebneodaaGreat
open Go.RowKit
set_option maxRecDepth 100000
set_option maxHeartbeats 2000000
theorem IJ {l:List (Int×Nat)} {ps:List (Int×ByteArray×Tc×List Tc)} (k:Int) (h:l.map (·.1)=ps.map (·.1)):(bU l k).isSome=((ps.find? fun p=>p.1==k).map (·.2)).isSome:=by
 induction l generalizing ps with
 | nil=>
  cases ps with
  | nil=>rfl
  | cons q ps=>simp at h
 | cons a l ih=>
  cases ps with
  | nil=>simp at h
  | cons q ps=>
   simp only[List.map_cons,List.cons.injEq]at h
   have ih:=ih h.2
   unfold bU at ih ⊢
   rw[List.find?_cons,List.find?_cons,h.1]
   cases q.1==k
   ·exact ih
   ·rfl
section
variable {p:SyP} {s:Sy} {d:SyD} {w:World}
theorem SyAt.alive (h:SyAt p s d w) (k:Int):(bU d.l k).isSome=(s.get k).isSome:=IJ k h.keys.1
theorem SyAt.look (h:SyAt p s d w) (k:Int) (c:Bool):(Instr.lookup 64 (.map d.po) (.int .i64 k) c).run Tryz.prog w=.ok (if c then .tuple #[match bU d.l k with|some b=>uE b|none=> .pointer none,.bool (bU d.l k).isSome]else match bU d.l k with|some b=>uE b|none=> .pointer none) w:=by
 rcases h.pm with⟨e1,e2⟩|⟨mb,e1,_,_,e2⟩
 ·rw[e1,e2]
  have:=Ew w k c
  cases c<;>exact this
 ·rw[e1]
  obtain⟨h1,h2⟩:=e2.look k c
  cases e:bU d.l k with
  | none=>
   rw[h1 e]
   cases c<;>rfl
  | some b=>
   rw[h2 b e]
   cases c<;>rfl
theorem SyAt.cells (h:SyAt p s d w):w.cell? ⟨p.b,0,none⟩=some (.slice p.pa p.prog.length p.pc)/\w.cell? ⟨p.b,1,none⟩=some (.int .i64 p.room)/\w.cell? ⟨p.b,2,none⟩=some (.int .i64 s.last)/\w.cell? ⟨p.b,3,none⟩=some (.map d.po):=by
 have hb:=h.box
 exact⟨ae hb 0,ae hb 1,ae hb 2,ae hb 3⟩
theorem SyAt.isAlive (h:SyAt p s d w) (k:Int):Calls Tryz.prog 40 #[.pointer (some ⟨p.b,0,none⟩),.int .i64 k] w fun e w'=>e=.returned (.bool (s.get k).isSome)/\w'=w:=by
 have c3:=h.cells.2.2.2
 have hl:=h.look k true
 rw[if_pos rfl]at hl
 have ha:=h.alive k
 obtain⟨r,hr⟩:∃r,r=(s.get k).isSome:=⟨_,rfl⟩
 rw[<-hr]at ha ⊢
 rw[ha]at hl
 generalize (match bU d.l k with|some b=>uE b|none=> .pointer none)=v at hl
 clear ha hr
 generalize d.po=mo at*
 clear h
 go_enter Tryz.func40,Tryz.ntmps40
 go_wp2_with fail
 go_ret
 exact⟨rfl,rfl⟩
theorem SyAt.len (h:SyAt p s d w) (ty:TypeId):(Builtin.len_ #[64] ty #[.map d.po]).run Tryz.prog w=.ok (.int .i64 s.ps.length) w:=by
 have hl:d.l.length=s.ps.length:=by
  have:=congrArg List.length h.keys.1
  simpa using this
 rcases h.pm with⟨e1,e2⟩|⟨mb,e1,_,_,e2⟩
 ·rw[e1,<-hl,e2]
  exact Maps.len_nil Tryz.underlying64 ty
 ·rw[e1,<-hl]
  exact e2.len ty
theorem SyAt.mayHave (h:SyAt p s d w) (n:Nat) (hn:n<=1000):Calls Tryz.prog 26 #[.pointer (some ⟨p.b,0,none⟩),.int .i64 n] w fun e w'=>e=.returned (.bool (s.may n))/\w'=w:=by
 obtain⟨_,_,c2,c3⟩:=h.cells
 have hl:=h.len 3
 obtain⟨_,_,_,k1,k2,k3⟩:=h.keys
 obtain⟨r,hr⟩:∃r,r=s.may n:=⟨_,rfl⟩
 rw[<-hr]
 unfold Sy.may at hr
 generalize s.last=la at*
 generalize s.ps.length=L at*
 generalize d.po=mo at*
 clear h
 have e1:IntKind.i64.wrap ((L:Int)+n)=(L:Int)+n:=by rw[IntKind.wrap];simp[IntKind.bits,IntKind.signed];omega
 have e2:IntKind.i64.wrap (la+n)=la+n:=by rw[IntKind.wrap];simp[IntKind.bits,IntKind.signed];omega
 go_enter Tryz.func26,Tryz.ntmps26
 by_cases h1:(L:Int)+n<=12
 ·by_cases h2:la+n<=90
  ·rw[decide_eq_true h1,decide_eq_true h2]at hr
   subst hr
   go_wp2_with fail
   go_ret
   exact⟨rfl,rfl⟩
  ·rw[decide_eq_true h1,decide_eq_false h2]at hr
   subst hr
   go_wp2_with fail
   go_ret
   exact⟨rfl,rfl⟩
 ·rw[decide_eq_false h1]at hr
  subst hr
  go_wp2_with fail
  go_ret
  exact⟨rfl,rfl⟩
theorem Ex (n:Nat) (nm:ByteArray) (l:List (Bh n)) (la:Option Addr) (lc len B sb:Nat) (w:World) (hlen:l.length=len) (hll:len<=9223372036854775807) (hB:B<=w.heap.size) (_hsb:sb<w.heap.size) (HC:Hid (w.cell? ⟨sb,0,none⟩=some (.slice la len lc))) (HL:Hid (PgIn n B w la l)):
    Calls Tryz.prog 27 #[.pointer (some ⟨sb,0,none⟩),.string nm] w fun e w'=>e=.returned (.bool (fO n nm l).isSome)/\Below w.heap.size w w':=by
 have c0:=HC.out
 go_enter Tryz.func27,Tryz.ntmps27
 go_wp2_with fail
 go_loopw [12] (fun i wr=>∃j:Nat,j<=len/\i=.int .i64 j/\Hid (Below w.heap.size w wr/\fO n nm l=fO n nm (l.drop j))) (fun i _=>len-(intOf i).toNat)
 case atStart=>exact⟨0,by omega,rfl,Below.refl _ _,rfl⟩
 case round=>
 obtain⟨j,hj,rfl,HR⟩:=hrel
 by_cases hlt:j<len
 ·obtain⟨b,hb⟩:∃b,l[j]? =some b:=⟨l[j]'(by omega),List.getElem?_eq_getElem _⟩
  obtain⟨lb,lo,rfl,hlb,HK⟩:∃g o,la=some ⟨g,o,none⟩/\g<B/\Hid (∀(t:Nat) (u:Value),(nK n b)[t]? =some u->w.cell? ⟨g,o+j*2+t,none⟩=some u):=by
   rcases HL.out with e|⟨g,o,e,hg,h⟩
   ·rw[e]at hb
    simp at hb
   ·exact⟨g,o,e,hg,(h j _ hb).1⟩
  have hcell:∀(t:Nat) (u:Value),(nK n b)[t]? =some u->wr.cell? ⟨lb,lo+j*2+t,none⟩=some u:=fun t u ht=>(HR.out.1.cell (p:=⟨lb,lo+j*2+t,none⟩) (Nat.lt_of_lt_of_le hlb hB)).trans (HK.out t u ht)
  have x0:wr.cell? ⟨lb,lo+j*2,none⟩=some (.string b.1):=hcell 0 _ rfl
  have x1:wr.cell? ⟨lb,lo+j*2+1,none⟩=some (.slice b.2.1.1 b.2.2.length b.2.1.2):=hcell 1 _ rfl
  have j1:(0:Int)<=(j:Int):=by omega
  have j2:(j:Int)<(len:Int):=by omega
  have HN:Hid (∀o,Below w.heap.size w (wr.alloc o)):=fun o=>HR.out.1.alloc HR.out.1.size o
  by_cases hn:b.1=nm
  ·have HE:Hid (fO n nm l=some b):=by
     show _=_
     rw[HR.out.2,mY n nm hb,if_pos hn]
   rw[hn]at x0
   clear hcell HR hb
   go_wp2_with fail
   go_ret
   exact⟨aT (by rw[HE.out];rfl),HN.out _⟩
  ·have HE:Hid (fO n nm l=fO n nm (l.drop (j+1))):=by
     show _=_
     rw[HR.out.2,mY n nm hb,if_neg hn]
   have ht:(b.1.toList==nm.toList)=false:=by
    rw[beq_eq_false_iff_ne]
    intro e
    rw[ByteArray.toList_eq,ByteArray.toList_eq]at e
    exact hn (ByteArray.ext (Array.ext' e))
   clear hcell HR hb
   go_wp2_with fail
   go_roundw
   case rel=>exact⟨j+1,by omega,by go_num,HN.out _,HE.out⟩
   case measure=>simp[intOf];omega
 ·obtain rfl:j=len:=by omega
  have HV:Hid (fO n nm l=none):=by
   show _=_
   rw[HR.out.2,List.drop_of_length_le (by omega)]
   rfl
  have HB:=hide HR.out.1
  clear HR
  go_wp2_with fail
  go_ret
  exact⟨aT (by rw[HV.out];rfl),HB.out⟩
theorem SyAt.knows (h:SyAt p s d w) (nm:ByteArray):Calls Tryz.prog 27 #[.pointer (some ⟨p.b,0,none⟩),.string nm] w fun e w'=>e=.returned (.bool (mG p.n p.prog nm))/\Below w.heap.size w w':=
 Ex (p.n+1) nm p.prog p.pa p.pc p.prog.length w.heap.size p.b w rfl (Nat.le_trans h.pg.2.1 h.pg.2.2.1) (Nat.le_refl _) h.lo.2 h.cells.1 h.pg.1.1
end
theorem lZ {α:Type} {k j:Int} (hkj:j≠k):(l:List (Int×α))->(l.eraseP fun p=>p.1==k).find? (fun p=>p.1==j)=l.find? fun p=>p.1==j
 | []=>rfl
 | a::l=>by
  rw[List.eraseP_cons]
  by_cases h:a.1=k
  ·have h1:(a.1==k)=true:=by simpa using h
   have h2:(a.1==j)=false:=by simp[h];exact fun e=>hkj e.symm
   simp[h1,h2]
  ·have h1:(a.1==k)=false:=by simpa using h
   simp only[h1,cond_false,List.find?_cons]
   rw[lZ hkj l]
theorem xW {α:Type} {k:Int}:(l:List (Int×α))->(l.map (·.1)).Nodup->(l.eraseP fun p=>p.1==k).find? (fun p=>p.1==k)=none
 | [],_=>rfl
 | a::l,hn=>by
  rw[List.map_cons,List.nodup_cons]at hn
  rw[List.eraseP_cons]
  by_cases h:a.1=k
  ·have h1:(a.1==k)=true:=by simpa using h
   simp only[h1,cond_true]
   refine List.find?_eq_none.2 fun q hq=> ?_
   simp only[beq_iff_eq]
   intro e
   exact hn.1 (List.mem_map.2 ⟨q,hq,e.trans h.symm⟩)
  ·have h1:(a.1==k)=false:=by simpa using h
   simp only[h1,cond_false,List.find?_cons]
   exact xW l hn.2
def SyUp (a:Nat) (d d':SyD) (w w':World):Prop:=Kee (fun q=>d.ow q<0) w w'/\(∀q,q<w.heap.size->d'.ow q=d.ow q)/\d'.k=d.k/\d'.es.length<=d.es.length+a/\d'.wn<=d.wn+a/\d'.bn<=d.bn+a
theorem SyUp.trans {a b:Nat} {d d1 d2:SyD} {w w1 w2:World} (h:SyUp a d d1 w w1) (k:SyUp b d1 d2 w1 w2):SyUp (a+b) d d2 w w2:=by
 obtain⟨h1,h2,h3,h4,h5,h6⟩:=h
 obtain⟨k1,k2,k3,k4,k5,k6⟩:=k
 have hs:=h1.size
 exact⟨h1.trans k1 fun q hq e=>by rw[h2 q hq]at e;exact e,fun q hq=>(k2 q (by omega)).trans (h2 q hq),k3.trans h3,by omega,by omega,by omega⟩
theorem SyUp.mono {a b:Nat} {d d1:SyD} {w w1:World} (h:SyUp a d d1 w w1) (hab:a<=b):SyUp b d d1 w w1:=by
 obtain⟨h1,h2,h3,h4,h5,h6⟩:=h
 exact⟨h1,h2,h3,by omega,by omega,by omega⟩
theorem SyUp.later (d:SyD) {w w1:World} (h:Below w.heap.size w w1):SyUp 0 d d w w1:=⟨aj h _,fun _ _=>rfl,rfl,Nat.le_refl _,Nat.le_refl _,Nat.le_refl _⟩
theorem SyTells.up {p:SyP} {s:Sy} {d:SyD} {wt:ByteArray} {a b:Int} {t:Tc} {w w':World} (h:SyAt p s d w) (k:SyTells p s d wt a b t w w'):∃d',SyAt p (s.tell wt a b t) d' w'/\SyUp 1 d d' w w':=by
 obtain⟨v,y,k1,k2⟩:=k
 refine⟨_,k1,k2.mono fun q _ e=> ?_,fun q hq=>if_neg (by omega),rfl,by simp,Nat.le_succ _,Nat.le_succ _⟩
 rcases e with e|e
 ·rw[e,h.own]
  decide
 ·rw[e]
  decide
section
variable {p:SyP} {s:Sy} {d:SyD} {w:World}
theorem SyAt.del (h:SyAt p s d w) (k:Int):∃w',(∀ty,(Builtin.delete_ #[64,3] ty #[.map d.po,.int .i64 k]).run Tryz.prog w=.ok (.tuple #[]) w')/\SyAt p {s with ps:=s.ps.eraseP fun q=>q.1==k} {d with l:=d.l.eraseP fun q=>q.1==k} w'/\Kee (fun q=>d.ow q=-5/\q≠p.b) w w':=by
 have hkeys:(d.l.eraseP fun q=>q.1==k).map (·.1)=(s.ps.eraseP fun q=>q.1==k).map (·.1):=by
  have e:=congrArg (fun l=>l.eraseP (fun q=>q==k)) h.keys.1
  simpa [List.eraseP_map,Function.comp_def]using e
 obtain⟨h1,h2,h3,h4,h5,h6⟩:=h.keys
 have hnd:(d.l.map (·.1)).Nodup:=by rw[h1];exact h2
 have hK:∀(w':World),Kee (fun q=>d.ow q=-5/\q≠p.b) w w'->((d.po=none/\d.l.eraseP (fun q=>q.1==k)=[])∨∃mb,d.po=some mb/\d.ow mb=-5/\mb≠p.b/\IM w' mb (d.l.eraseP fun q=>q.1==k))->SyAt p {s with ps:=s.ps.eraseP fun q=>q.1==k} {d with l:=d.l.eraseP fun q=>q.1==k} w':=fun w' hk hpm=>by
  have ho:∀b,d.ow b≠0->d.ow b=d.ow b:=fun _ _=>rfl
  have hl:∀b,d.ow b≠0->p.lo<=b/\b<w'.heap.size:=fun b q=>⟨(h.low b q).1,Nat.lt_of_lt_of_le (h.low b q).2 hk.size⟩
  have hb:w'.heap[p.b]? =some (.cells (cZ p s d) 72):=(hk.block p.b h.lo.2 fun z=>z.2 rfl).trans h.box
  have t:∀{t:Int},t≠ -5->∀b,d.ow b=t->¬(d.ow b=-5/\b≠p.b):=fun ht b e z=>ht (e.symm.trans z.1)
  obtain⟨y1,y2,y3⟩:=h.wyK hk (t (by decide)) ho rfl (oW hb).1
  obtain⟨e1,e2⟩:=h.evK hk (t (by decide)) ho
  refine⟨hl,hb,h.own,⟨h.pgK hk (t (by decide)) ho,h.pg.2⟩,hpm,⟨hkeys, ?_,fun q hq=>h3 q (List.mem_of_mem_eraseP hq),h4,h5, ?_⟩,fun j b q=> ?_,⟨y1,y2,h.wy.2.2.1,h.wy.2.2.2.1,y3⟩,h.bdK hk (t (by decide)) ho rfl (oW hb).2,e1,h.evt.1,e2⟩
  ·exact(h2.sublist ((List.eraseP_sublist (l:=s.ps) (p:=fun q=>q.1==k)).map _))
  ·exact Nat.le_trans (List.length_eraseP_le) h6
  ·have hjk:j≠k:=fun e=>by
     subst e
     have:bU (d.l.eraseP fun q=>q.1==j) j=none:=by unfold bU;rw[xW d.l hnd];rfl
     rw[this]at q
     cases q
   have q':bU d.l j=some b:=by
    unfold bU at q ⊢
    rw[lZ hjk]at q
    exact q
   obtain⟨nm,cs,cms,g1,g2⟩:=h.psK hk (Nat.le_refl _) (t (by have:=(h.key q').1;omega)) ho hl q'
   refine⟨nm,cs,cms, ?_,g2⟩
   unfold Sy.get at g1 ⊢
   rw[lZ hjk]
   exact g1
 rcases h.pm with⟨e1,e2⟩|⟨mb,e1,e2,e3,e4⟩
 ·refine⟨w, ?_,hK w (Kee.refl _ _) (Or.inl ⟨e1,by rw[e2];rfl⟩),Kee.refl _ _⟩
  have hm:=Tryz.underlying64
  intro ty
  rw[e1]
  simp[Builtin.delete_,run_underlying hm,jw,Result.andThen]
 ·obtain⟨w',r1,r2,r3,_⟩:=e4.del k
  have hk:Kee (fun q=>d.ow q=-5/\q≠p.b) w w':=r3.mono fun q _ e=>by rw[e];exact⟨e2,e3⟩
  exact⟨w',fun ty=>by rw[e1];exact r1 ty,hK w' hk (Or.inr ⟨mb,e1,e2,e3,r2⟩),hk⟩
theorem Hf (sb:Nat) (mo:Option Nat) (x how:Int) (w w1:World) (R:World->Prop) (HC:Hid (w.cell? ⟨sb,3,none⟩=some (.map mo))) (hd:∀ty,(Builtin.delete_ #[64,3] ty #[.map mo,.int .i64 x]).run Tryz.prog w=.ok (.tuple #[]) w1)
    (HT:Hid (Calls Tryz.prog 35 #[.pointer (some ⟨sb,0,none⟩),.string ⟨#[101,110,100]⟩,.int .i64 x,.int .i64 how,.agg #[.int .i64 0,.int .i64 0,.string ⟨#[]⟩,.slice none 0 0]] w1 fun e w'=>e=.returned (.tuple #[])/\R w')):
    Calls Tryz.prog 59 #[.pointer (some ⟨sb,0,none⟩),.int .i64 x,.int .i64 how] w fun e w'=>e=.returned (.tuple #[])/\R w':=by
 have c3:=HC.out
 go_enter Tryz.func59,Tryz.ntmps59
 go_wp2_with fail
 refine HT.out.mono ?_
 rintro e w2 ⟨rfl,h2⟩
 have H2:=hide h2
 clear h2
 go_wp2_with fail
 exact bodyPost_end (v:=.tuple #[]) (by simp[results]) rfl ⟨rfl,H2.out⟩
theorem SyAt.drop (h:SyAt p s d w) (x how:Int) (hL:d.es.length<=100000):Calls Tryz.prog 59 #[.pointer (some ⟨p.b,0,none⟩),.int .i64 x,.int .i64 how] w fun e w'=>e=.returned (.tuple #[])/\Hid (∃d',SyAt p (s.drop x how) d' w'/\SyUp 1 d d' w w'):=by
 obtain⟨w1,hd,h1,k1⟩:=h.del x
 refine Hf p.b d.po x how w w1 _ h.cells.2.2.2 hd ((h1.tell Oo x how 0 0 ⟨#[]⟩ none 0 0 MB (KH w1) hL).mono fun e w' q=>⟨q.1, ?_⟩)
 obtain⟨d',g1,g2⟩:=q.2.out.up h1
 have k2:SyUp 0 d {d with l:=d.l.eraseP fun q=>q.1==x} w w1:=⟨k1.mono fun q _ e=>by rw[e.1];decide,fun _ _=>rfl,rfl,Nat.le_refl _,Nat.le_refl _,Nat.le_refl _⟩
 exact⟨d',g1,(k2.trans g2).mono (Nat.le_refl _)⟩
end
theorem Nt {w:World} {base:Nat} {e:TypeId} {sz:Nat} {v:Value} {n:Nat} {xs:List Value} (h:w.ownsRow base e sz v n xs):∃a c,v=.slice a n c:=by
 rcases h.2 with⟨rfl,rfl⟩|⟨g,c,cur,rfl,_⟩
 ·exact⟨none,0,rfl⟩
 ·exact⟨_,c,rfl⟩
section
variable {p:SyP} {s:Sy} {d:SyD} {w:World}
theorem SyAt.parted (h:SyAt p s d w) {x:Int} (hx:bR x) (al:Bool):Calls Tryz.prog 60 #[.pointer (some ⟨p.b,5,none⟩),.int .i64 x,.bool al] w fun e w'=>∃v,e=.returned v/\Hid (NRow w.heap.size v (tJ s.bonds x al) w'/\SyAt p {s with bonds:=wo s.bonds (x::tJ s.bonds x al)} d w'/\SyUp 0 d d w w'):=by
 refine(JW h.bd.1 h.bd.2.1 hx al).mono ?_
 rintro e w' ⟨v,rfl,H⟩
 obtain⟨h1,h2,h3⟩:=H.out
 have ho:∀b,d.ow b≠0->d.ow b=d.ow b:=fun _ _=>rfl
 have hl:∀b,d.ow b≠0->p.lo<=b/\b<w'.heap.size:=fun b q=>⟨(h.low b q).1,Nat.lt_of_lt_of_le (h.low b q).2 h3.size⟩
 have t:∀{t:Int},t≠ -2->∀b,d.ow b=t->¬d.bo=some b:=fun ht b e z=>ht (e.symm.trans (h.bd.2.2 b z))
 have hb:w'.heap[p.b]? =some (.cells (cZ p s d) 72):=(h3.block p.b h.lo.2 (t (by decide) p.b h.own)).trans h.box
 obtain⟨y1,y2,y3⟩:=h.wyK h3 (t (by decide)) ho rfl (oW hb).1
 obtain⟨e1,e2⟩:=h.evK h3 (t (by decide)) ho
 exact⟨v,rfl,h1,⟨hl,hb,h.own,⟨h.pgK h3 (t (by decide)) ho,h.pg.2⟩,h.pmK h3 (fun b e _=>t (by decide) b e) ho,h.keys,fun k b q=>h.psK h3 (Nat.le_refl _) (t (by have:=(h.key q).1;omega)) ho hl q,⟨y1,y2,h.wy.2.2.1,h.wy.2.2.2.1,y3⟩,⟨h2,h.bd.2.1.wo _,h.bd.2.2⟩,e1,h.evt.1,e2⟩,h3.mono fun b _ e=>by rw[h.bd.2.2 b e];decide,fun _ _=>rfl,rfl,Nat.le_refl _,Nat.le_refl _,Nat.le_refl _⟩
theorem Nl {g:Int×Int->Bool} (hg:OKg g) (x:Int) (al:Bool):(tJ g x al).length<=99:=by
 unfold tJ
 split
 ·simp
 ·exact(Ev hg x).le
theorem Kg (sb:Nat) (x how:Int) (w:World) (l:List Int) (L:Nat) (al:Bool) (R:Option Addr->Nat->Nat->World->Prop) (hL:L<=99) (HL:Hid (l.length=L)) (hal:al=(how==1))
    (HD:Hid (Calls Tryz.prog 59 #[.pointer (some ⟨sb,0,none⟩),.int .i64 x,.int .i64 how] w fun e w'=>e=.returned (.tuple #[])/\Hid (Calls Tryz.prog 60 #[.pointer (some ⟨sb,5,none⟩),.int .i64 x,.bool al] w' fun e w'=>∃a c,e=.returned (.slice a L c)/\Hid (R a c 0 w'))))
    (HV:Hid (∀a c j W,R a c j W->(∀(i:Nat) (k:Int),l[i]? =some k->∃g,a=some ⟨g,0,none⟩/\W.cell? ⟨g,i,none⟩=some (.int .i64 k))/\∀y,l[j]? =some y->Calls Tryz.prog 59 #[.pointer (some ⟨sb,0,none⟩),.int .i64 y,.int .i64 4] W fun e w'=>e=.returned (.tuple #[])/\Hid (R a c (j+1) w'))):
    Calls Tryz.prog 37 #[.pointer (some ⟨sb,0,none⟩),.int .i64 x,.int .i64 how] w fun e w'=>e=.returned (.tuple #[])/\Hid (∃a c,R a c L w'):=by
 go_enter Tryz.func37,Tryz.ntmps37
 go_wp2_with fail
 refine HD.out.mono ?_
 rintro e w1 ⟨rfl,H1⟩
 have he:(how==1)=al:=hal.symm
 clear HD hal
 go_wp2_with fail
 refine H1.out.mono ?_
 rintro e w2 ⟨a,c,rfl,H2⟩
 clear H1
 go_wp2_with fail
 go_loopw [7,20] (fun _ i wr=>∃j:Nat,j<=L/\i=.int .i64 j/\Hid (R a c j wr)) (fun _ i _=>L-(intOf i).toNat)
 case atStart=>exact⟨0,Nat.zero_le _,rfl,H2.out⟩
 case round=>
 obtain⟨j,hj,rfl,HR⟩:=hrel
 by_cases hjl:j<L
 ·obtain⟨y,hy⟩:∃y,l[j]? =some y:=⟨l[j]'(by rw[HL.out];exact hjl),List.getElem?_eq_getElem _⟩
  obtain⟨h1,h2⟩:=HV.out a c j wr HR.out
  obtain⟨g,rfl,hc⟩:=h1 j y hy
  have HN:=hide (h2 y hy)
  have j1:(0:Int)<=(j:Int):=by omega
  have j2:(j:Int)<(L:Int):=by omega
  clear h1 h2 hy H2
  go_wp2_with fail
  refine HN.out.mono ?_
  rintro e w3 ⟨rfl,H3⟩
  clear HN hc
  go_wp2_with fail
  go_roundw
  case rel=>exact⟨j+1,by omega,by go_num,H3.out⟩
  case measure=>simp[intOf];omega
 ·obtain rfl:j=L:=by omega
  have HF:=hide HR.out
  clear HR H2
  go_wp2_with fail
  exact bodyPost_end (v:=.tuple #[]) (by simp[results]) rfl ⟨rfl,a,c,HF.out⟩
theorem SyAt.fin (h:SyAt p s d w) {x how:Int} (hx:bR x) (hL:d.es.length<=99000):Calls Tryz.prog 37 #[.pointer (some ⟨p.b,0,none⟩),.int .i64 x,.int .i64 how] w fun e w'=>e=.returned (.tuple #[])/\Hid (∃d',SyAt p (s.fin x how) d' w'/\SyUp 100 d d' w w'):=by
 have hle:=Nl h.bd.2.1 x (how==1)
 obtain⟨l,hl⟩:∃l,l=tJ s.bonds x (how==1):=⟨_,rfl⟩
 rw[<-hl]at hle
 refine(Kg p.b x how w l l.length (how==1) (fun a c j W=>∃d' base,SyAt p ((l.take j).foldl (fun s y=>s.drop y 4) {s.drop x how with bonds:=wo s.bonds (x::l)}) d' W/\SyUp (1+j) d d' w W/\NRow base (.slice a l.length c) l W/\∀q,(Value.slice a l.length c).ownBlock=some q->d'.ow q=0) hle rfl rfl ?_ ?_).mono ?_
 ·refine(h.drop x how (by omega)).mono ?_
  rintro e w1 ⟨rfl,H⟩
  obtain⟨d1,h1,u1⟩:=H.out
  refine⟨rfl,(h1.parted hx (how==1)).mono ?_⟩
  rintro e w2 ⟨v,rfl,H2⟩
  obtain⟨r1,r2,r3⟩:=H2.out
  have e1:(s.drop x how).bonds=s.bonds:=rfl
  rw[e1,<-hl]at r1 r2
  obtain⟨a,c,rfl⟩:∃a c,v=.slice a l.length c:=Nt r1
  refine⟨a,c,rfl,d1,_,r2,(u1.trans r3).mono (by omega),r1,fun q hq=> ?_⟩
  have h3:=(r1.lt q hq).1
  by_cases h4:d1.ow q=0
  ·exact h4
  ·have:=(h1.low q h4).2
   omega
 ·rintro a c j W ⟨d',base,g1,g2,g3,g4⟩
  refine⟨fun i k hk=> ?_,fun y hy=> ?_⟩
  ·obtain⟨a',c',e,hr⟩:=g3.row
   injection e with e1 _ e3
   subst e1 e3
   rcases g3.2 with⟨e,e0⟩|⟨g,cc,cur,e,_⟩
   ·rw[List.eq_nil_of_length_eq_zero e0]at hk
    simp at hk
   ·injection e with e1 _ e3
    subst e1 e3
    rcases hr with hr|⟨g',o',e,hlt,hr⟩
    ·rw[hr]at hk
     simp at hk
    ·injection e with e
     injection e with e1 e2
     subst e1 e2
     have:=hr i k hk
     rw[Nat.zero_add]at this
     exact⟨_,rfl,this⟩
  ·have hjl:=(List.getElem?_eq_some_iff.1 hy).1
   refine(g1.drop y 4 (by have:=g2.2.2.2.1;omega)).mono ?_
   rintro e w' ⟨rfl,H⟩
   obtain⟨d2,k1,k2⟩:=H.out
   have hq:∀q,(Value.slice a l.length c).ownBlock=some q->q<W.heap.size:=fun q z=>(g3.lt q z).2
   refine⟨rfl,d2,base, ?_,(g2.trans k2).mono (by omega),aG g3 k2.1 fun q z z2=>by rw[g4 q z]at z2;omega,fun q z=>(k2.2.1 q (hq q z)).trans (g4 q z)⟩
   rw[List.take_add_one,hy,List.foldl_append]
   exact k1
 ·rintro e w' ⟨rfl,H⟩
  obtain⟨a,c,d',base,g1,g2,_⟩:=H.out
  refine⟨rfl,d', ?_,g2.mono (by omega)⟩
  rw[List.take_of_length_le (Nat.le_refl _)]at g1
  unfold Sy.fin
  rw[<-hl]
  exact g1
end
section
variable {p:SyP} {s:Sy} {d:SyD} {w:World}
theorem SyAt.linkB (h:SyAt p s d w) {x y:Int} (hx:bR x) (hy:bR y) (hn:d.bn<1000000):Calls Tryz.prog 88 #[.pointer (some ⟨p.b,5,none⟩),.int .i64 x,.int .i64 y] w fun e w'=>e=.returned (.int .i64 (uY x y))/\Hid (∃d',SyAt p {s with bonds:=if uY x y=0 then upd s.bonds (gW x y) true else s.bonds} d' w'/\SyUp 1 d d' w w'):=by
 refine(Ij h.bd.1 hx hy hn).mono ?_
 rintro e w' ⟨rfl,H⟩
 obtain⟨mo,h2,h3,h4⟩:=H.out
 have hs:=h3.size
 have hbd:∀b,Nc (Ot p s d) d.bo b->b=p.b∨d.ow b=-2:=fun b e=>e.imp id (h.bd.2.2 b)
 have hne:mo≠some p.b:=fun e=>by
  subst e
  exact h2.ne rfl
 have t:∀{t:Int},t≠ -2->t≠ -5->∀b,d.ow b=t->¬Nc (Ot p s d) d.bo b:=fun h2 h5 b e z=>by
  rcases hbd b z with z|z
  ·rw[z,h.own]at e
   exact h5 e.symm
  ·exact h2 (e.symm.trans z)
 have hb:w'.heap[p.b]? =some (.cells (cZ p {s with bonds:=if uY x y=0 then upd s.bonds (gW x y) true else s.bonds} {d with ow:=FI d w w' (-2),bo:=mo,bn:=d.bn+1}) 72):=by
  have:=h2.2.1.2
  simpa [Ot,cZ]using this
 have hlow:=uk (t:=-2) h hs h.lo.1
 have hold:=uo (w':=w') (t:=-2) h
 obtain⟨b1,b2⟩:=oW hb
 obtain⟨y1,y2,y3⟩:=h.wyK h3 (t (by decide) (by decide)) hold rfl b1
 obtain⟨e1,e2⟩:=h.evK h3 (t (by decide) (by decide)) hold
 refine⟨rfl,{d with ow:=FI d w w' (-2),bo:=mo,bn:=d.bn+1},⟨hlow,hb,(hold p.b (by rw[h.own];decide)).trans h.own,⟨h.pgK h3 (t (by decide) (by decide)) hold,h.pg.2⟩,h.pmK h3 (fun b e1 e2 z=> ?_) hold,h.keys,fun k b q=>h.psK h3 (Nat.le_refl _) (t (by have:=(h.key q).1;omega) (by have:=(h.key q).1;omega)) hold hlow q,⟨y1,y2,h.wy.2.2.1,h.wy.2.2.2.1,y3⟩,⟨?_, ?_,fun b e=> ?_⟩,e1,h.evt.1,e2⟩,h3.mono fun b _ e=> ?_,fun q hq=>if_neg (by omega),rfl,Nat.le_succ _,Nat.le_succ _,Nat.le_refl _⟩
 ·rcases hbd b z with z|z
  ·exact e2 z
  ·rw[e1]at z
   cases z
 ·exact⟨h2.1,b2,h2.2.2⟩
 ·show OKg (if uY x y=0 then upd s.bonds (gW x y) true else s.bonds)
  split
  ·rename_i h0
   intro k hk
   by_cases hkx:k=gW x y
   ·subst hkx
    unfold uY at h0
    split at h0
    ·rename_i hv
     obtain⟨v1,v2,v3⟩:=hv
     simp only[lQ,Bool.and_eq_true,decide_eq_true_eq]at v1 v2
     unfold gW
     simp only
     omega
    ·cases h0
   ·rw[aS _ _ hkx]at hk
    exact h.bd.2.1 k hk
  ·exact h.bd.2.1
 ·rcases h4 b (Or.inr e)with z|z
  ·rcases hbd b z with z|z
   ·subst z
    exact absurd e hne
   ·exact(hold b (by rw[z];decide)).trans z
  ·have:=(h2.lt b (Or.inr e)).2
   exact if_pos ⟨z,this⟩
 ·rcases hbd b e with z|z
  ·rw[z,h.own]
   decide
  ·rw[z]
   decide
theorem N7 (sb:Nat) (a b:Int) (r:Bool) (v:Int) (w:World) (R:World->Prop) (HA:Hid (Calls Tryz.prog 40 #[.pointer (some ⟨sb,0,none⟩),.int .i64 b] w fun e w'=>e=.returned (.bool r)/\w'=w)) (HF:Hid (r=false->R w))
    (HL:Hid (r=true->Calls Tryz.prog 88 #[.pointer (some ⟨sb,5,none⟩),.int .i64 a,.int .i64 b] w fun e w'=>e=.returned (.int .i64 v)/\Hid (R w'))):
    Calls Tryz.prog 62 #[.pointer (some ⟨sb,0,none⟩),.int .i64 a,.int .i64 b] w fun e w'=>e=.returned (.tuple #[])/\Hid (R w'):=by
 go_enter Tryz.func62,Tryz.ntmps62
 go_wp2_with fail
 refine HA.out.mono ?_
 rintro e w1 ⟨rfl,hw⟩
 obtain rfl:=hw.symm
 clear hw HA
 cases r
 ·have H:=hide (HF.out rfl)
  go_wp2_with fail
  exact bodyPost_end (v:=.tuple #[]) (by simp[results]) rfl ⟨rfl,H.out⟩
 ·have H:=hide (HL.out rfl)
  go_wp2_with fail
  refine H.out.mono ?_
  rintro e w2 ⟨rfl,H2⟩
  go_wp2_with fail
  exact bodyPost_end (v:=.tuple #[]) (by simp[results]) rfl ⟨rfl,H2.out⟩
theorem SyAt.link (h:SyAt p s d w) {a b:Int} (ha:bR a) (hb:bR b) (hn:d.bn<1000000):Calls Tryz.prog 62 #[.pointer (some ⟨p.b,0,none⟩),.int .i64 a,.int .i64 b] w fun e w'=>e=.returned (.tuple #[])/\Hid (∃d',SyAt p (s.link a b) d' w'/\SyUp 1 d d' w w'):=by
 refine N7 p.b a b (s.get b).isSome (uY a b) w (fun w'=>∃d',SyAt p (s.link a b) d' w'/\SyUp 1 d d' w w') (h.isAlive b) (fun e=>⟨d, ?_,(SyUp.later d (Below.refl _ _)).mono (Nat.zero_le _)⟩) fun e=> ?_
 ·unfold Sy.link
  rw[e]
  exact h
 ·unfold Sy.link
  rw[e]
  exact h.linkB ha hb hn
end
section
variable {p:SyP} {s:Sy} {d:SyD} {w:World}
theorem Ld {m:Nat} {x:Tm (m+1)} (hc:aQ (m+1) x=0) (a b:Int) (L:Nat):jT 12 a b (lift 13 (m+1) x) L=jT 12 a b (cn (m+1) x) L:=by
 have hr:ai ⟨m+1,x⟩:=ax.2 (aN.1 hc).1
 have hs:=iH 13 (m+1) x hr (by have:=(aN.1 hc).2.1;omega)
 have hk:=dC hc
 unfold jT
 rw[aX hs,bD _ _ _ _ hs,aX hk,bD _ _ _ _ hk]
theorem SyAt.sendW (h:SyAt p s d w) {a b:Int} (hab:I2 (a,b)) {m:Nat} (x:Tm (m+1)) (hx:In w.heap.size w (m+1) x) (hc:aQ (m+1) x=0) (hn:d.wn<999999):
    Calls Tryz.prog 87 #[.pointer (some ⟨p.b,4,none⟩),.int .i64 a,.int .i64 b,val (m+1) x] w fun e w'=>e=.returned (.int .i64 (jT 12 a b (cn (m+1) x) (s.ways (a,b)).length))/\Hid (∃d',SyAt p (if jT 12 a b (cn (m+1) x) (s.ways (a,b)).length=0 then {s with ways:=upd s.ways (a,b) (s.ways (a,b)++ [cn (m+1) x])}else s) d' w'/\SyUp 1 d d' w w'):=by
 have hr:ai ⟨m+1,x⟩:=ax.2 (aN.1 hc).1
 have hd:dU (m+1) x<13:=by have:=(aN.1 hc).2.1;omega
 have hsm:=iH 13 (m+1) x hr hd
 have hlen:(d.f (a,b)).length=(s.ways (a,b)).length:=by
  have:=congrArg List.length (h.wy.2.2.1 (a,b))
  simpa using this
 have hL:(d.f (a,b)).length<=20:=h.wy.2.2.2.1 _
 have hv:val (m+1) x=val (12+1) (lift 13 (m+1) x):=(zL 12 m x).symm
 rw[hv]
 have hcx:aQ 13 (lift 13 (m+1) x)=0:=(aX hsm).trans hc
 refine(JB (N:=12) h.wy.1 hab (lift 13 (m+1) x) (qN 13 (m+1) x _ _ hr hd hx) (dS hcx) hn (by omega)).mono ?_
 rintro e w' ⟨rfl,h1,h2⟩
 rw[hlen,Ld hc]at h1 h2 ⊢
 refine⟨rfl, ?_⟩
 by_cases h0:jT 12 a b (cn (m+1) x) (s.ways (a,b)).length=0
 rotate_left
 ·rw[if_neg h0]
  exact⟨d,h.later (h1 h0),(SyUp.later d (h1 h0)).mono (Nat.zero_le _)⟩
 rw[if_pos h0]
 obtain⟨y,mo,sl,k1,k2,k3,k4,k5,k6⟩:=h2 h0
 have hcl:av 13 (cn (m+1) x)=true/\(s.ways (a,b)).length<20:=by
  unfold jT fH at h0
  split at h0
  ·cases h0
  ·split at h0
   ·rename_i hz
    exact absurd h0 hz
   ·split at h0
    ·cases h0
    ·rename_i hz
     split at h0
     ·cases h0
     ·exact⟨by simpa using hz,by omega⟩
 have hcn:cn 13 y=cn (m+1) x:=(fQ k1).trans (fQ hsm)
 have hcy:aQ 13 y=0:=(aX k1).trans hcx
 have hcly:av 13 y=true:=by
  have:=bD _ _ _ _ (dC hcy)
  rw[hcn]at this
  exact this.symm.trans hcl.1
 have hs:=k3.size
 have hwy:=h.wy.2.1
 have t:∀{t:Int},t≠ -1->t≠ -5->∀b,d.ow b=t->¬pW (Ay p s d) d.wo d.sl b:=fun h1 h5 b e z=>by
  rcases hwy b z with z|z
  ·rw[z,h.own]at e
   exact h5 e.symm
  ·exact h1 (e.symm.trans z)
 obtain⟨d',hd'⟩:∃d',d'={d with ow:=FI d w w' (-1),wo:=mo,wn:=d.wn+1,f:=upd d.f (a,b) (d.f (a,b)++ [y]),sl:=sl}:=⟨_,rfl⟩
 obtain⟨s',hs'⟩:∃s',s'={s with ways:=upd s.ways (a,b) (s.ways (a,b)++ [cn (m+1) x])}:=⟨_,rfl⟩
 have hb:w'.heap[p.b]? =some (.cells (cZ p s' d') 72):=by
  have:=k2.2.1.2
  rw[hs',hd']
  simpa [Ay,cZ]using this
 have hlow:=uk (t:=-1) h hs h.lo.1
 have hold:=uo (w':=w') (t:=-1) h
 obtain⟨b1,b2⟩:=oW hb
 rw[hd']at b2
 have hM:∀q,pW (Ay p s' d') mo sl q->pW (Ay p s d) d.wo d.sl q∨w.heap.size<=q:=k4
 obtain⟨e1,e2⟩:=h.evK k3 (t (by decide) (by decide)) hold
 refine⟨d', ?_, ?_⟩
 ·rw[<-hs',hd']
  rw[hs']at*
  refine⟨hlow,by rw[hd']at hb;exact hb,(hold p.b (by rw[h.own];decide)).trans h.own,⟨h.pgK k3 (t (by decide) (by decide)) hold,h.pg.2⟩,h.pmK k3 (fun b e1 e2 z=> ?_) hold,h.keys,fun k b q=>h.psK k3 (Nat.le_refl _) (t (by have:=(h.key q).1;omega) (by have:=(h.key q).1;omega)) hold hlow q,⟨?_,fun q z=> ?_,fun k=> ?_,fun k=> ?_,fun k z hz=> ?_⟩,h.bdK k3 (t (by decide) (by decide)) hold rfl b2,e1,h.evt.1,e2⟩
  ·rcases hwy b z with z|z
   ·exact e2 z
   ·rw[e1]at z
    cases z
  ·rw[hd']at b1
   exact⟨k2.1,b1,k2.2.2⟩
  ·rcases k4 q z with z1|z1
   ·exact(hwy q z1).imp id fun e=>(hold q (by rw[e];decide)).trans e
   ·exact Or.inr (if_pos ⟨z1,(k2.lt q z).2⟩)
  ·by_cases hk:k=(a,b)
   ·subst hk
    show (upd d.f (a,b) (d.f (a,b)++ [y]) (a,b)).map (cn 13)=upd s.ways (a,b) (s.ways (a,b)++ [cn (m+1) x]) (a,b)
    rw[upd_same,upd_same,List.map_append,h.wy.2.2.1,List.map_cons,List.map_nil,hcn]
   ·show (upd d.f (a,b) (d.f (a,b)++ [y]) k).map (cn 13)=upd s.ways (a,b) (s.ways (a,b)++ [cn (m+1) x]) k
    rw[aS _ _ hk,aS _ _ hk]
    exact h.wy.2.2.1 k
  ·by_cases hk:k=(a,b)
   ·subst hk
    show (upd d.f (a,b) (d.f (a,b)++ [y]) (a,b)).length<=20
    rw[upd_same,List.length_append,hlen]
    have:=hcl.2
    simp
    omega
   ·show (upd d.f (a,b) (d.f (a,b)++ [y]) k).length<=20
    rw[aS _ _ hk]
    exact h.wy.2.2.2.1 k
  ·have hz:z∈upd d.f (a,b) (d.f (a,b)++ [y]) k:=hz
   have hold2:∀j,∀z∈d.f j,aQ 13 z=0/\av 13 z=true/\In w'.heap.size w' 13 z/\Off (fun q=>FI d w w' (-1) q=-1/\¬pW (Ay p s d) mo sl q) 13 z:=fun j z hz=>by
    obtain⟨o1,o2,o3,o4⟩:=h.wy.2.2.2.2 j z hz
    have o5:=dV k3 (D:=fun q=>(d.ow q=-1/\¬pW (Ay p s d) d.wo d.sl q)/\q<w.heap.size) (fun q z1 z2=>z1.1.2 z2) ⟨o3,In.offB o4 o3⟩
    refine⟨o1,o2,o5.1,o5.2.mono fun q v=>⟨(hold q (by rw[v.1.1];decide)).trans v.1.1,fun z2=> ?_⟩⟩
    rcases k4 q z2 with z3|z3
    ·exact v.1.2 z3
    ·omega
   by_cases hk:k=(a,b)
   ·subst hk
    rw[upd_same]at hz
    rcases List.mem_append.1 hz with hz|hz
    ·exact hold2 _ z hz
    ·obtain rfl:=List.mem_singleton.1 hz
     exact⟨hcy,hcly,k5,(In.offB k6 k5).mono fun q v=>⟨if_pos ⟨v.1.1,v.2⟩,v.1.2⟩⟩
   ·rw[aS _ _ hk]at hz
    exact hold2 _ z hz
 ·rw[hd']
  exact⟨k3.mono fun b _ e=>by
   rcases hwy b e with z|z
   ·rw[z,h.own];decide
   ·rw[z];decide,fun q hq=>if_neg (by omega),rfl,Nat.le_succ _,Nat.le_refl _,Nat.le_succ _⟩
end
theorem eU {w w':World} (hb:Below w.heap.size w w') {q:Nat} {o:Obj} (h:w.heap[q]? =some o):w'.heap[q]? =some o:=(hb.block q (Array.getElem?_eq_some_iff.1 h).1).trans h
theorem Fe (sb:Nat) (a b x0 x1:Int) (x2:ByteArray) (xa:Option Addr) (xl xc:Nat) (v:Int) (w:World) (R1 R:World->Prop)
    (HS:Hid (∀W,Below w.heap.size w W->Calls Tryz.prog 87 #[.pointer (some ⟨sb,4,none⟩),.int .i64 a,.int .i64 b,.agg #[.int .i64 x0,.int .i64 x1,.string x2,.slice xa xl xc]] W fun e w'=>e=.returned (.int .i64 v)/\Hid (R1 w'/\∀q,w.heap.size<=q->q<W.heap.size->w'.heap[q]? =W.heap[q]?)))
    (HT:Hid (∀W,R1 W->Calls Tryz.prog 35 #[.pointer (some ⟨sb,0,none⟩),.string (if v=0 then ⟨#[115,101,110,100]⟩else ⟨#[108,111,115,116]⟩),.int .i64 a,.int .i64 b,.agg #[.int .i64 x0,.int .i64 x1,.string x2,.slice xa xl xc]] W fun e w'=>e=.returned (.tuple #[])/\Hid (R w'))):
    Calls Tryz.prog 61 #[.pointer (some ⟨sb,0,none⟩),.int .i64 a,.int .i64 b,.agg #[.int .i64 x0,.int .i64 x1,.string x2,.slice xa xl xc]] w fun e w'=>e=.returned (.tuple #[])/\Hid (R w'):=by
 go_enter Tryz.func61,Tryz.ntmps61
 go_upto_region 1 with fail
 generalize hw2:w.alloc _=w2
 have H0:Hid (Below w.heap.size w w2/\w2.heap[w.heap.size]? =some (.cells #[.int .i64 x0,.int .i64 x1,.string x2,.slice xa xl xc] 30)):=by
  rw[<-hw2]
  exact⟨(Below.refl _ _).alloc (Nat.le_refl _) _,heap_alloc_new _ _⟩
 clear hw2
 obtain⟨q,hq⟩:∃q,q=w.heap.size:=⟨_,rfl⟩
 rw[<-hq]
 have HX:Hid (w2.heap[q]? =some (.cells #[.int .i64 x0,.int .i64 x1,.string x2,.slice xa xl xc] 30)):=by rw[hq];exact H0.out.2
 have HB:=hide H0.out.1
 have HQ:=hide hq
 clear hq H0
 have HD:Hid (Below w2.heap.size w2 w2.drew):=(Below.refl _ _).drew
 have HBD:=hide (HB.out.trans (HD.out.mono HB.out.size))
 have HXD:=hide (eU HD.out HX.out)
 have HC:Hid (∀W:World,W.heap[q]? =some (.cells #[.int .i64 x0,.int .i64 x1,.string x2,.slice xa xl xc] 30)->W.cell? ⟨q,0,none⟩=some (.int .i64 x0)/\W.cell? ⟨q,1,none⟩=some (.int .i64 x1)/\W.cell? ⟨q,2,none⟩=some (.string x2)/\W.cell? ⟨q,3,none⟩=some (.slice xa xl xc)):=fun W h=>⟨ae h 0,ae h 1,ae h 2,ae h 3⟩
 obtain⟨c0,c1,c2,c3⟩:=HC.out w2 HX.out
 go_region_held3 (fun W=>W.cell? ⟨q,0,none⟩=some (.int .i64 x0)/\W.cell? ⟨q,1,none⟩=some (.int .i64 x1)/\W.cell? ⟨q,2,none⟩=some (.string x2)/\W.cell? ⟨q,3,none⟩=some (.slice xa xl xc))
  (first|exact HC.out _ HXD.out|exact HC.out _ HX3.out) ((first
   | (go_at_call 87;refine(HS.out _ HBD.out).mono ?_;rintro e w3 ⟨rfl,H3⟩;have HX3:Hid (w3.heap[q]? =some (.cells #[.int .i64 x0,.int .i64 x1,.string x2,.slice xa xl xc] 30)):=(H3.out.2 q (by have:=HQ.out;omega) (Array.getElem?_eq_some_iff.1 HXD.out).1).trans HXD.out)))
 obtain⟨d0,d1,d2,d3⟩:=HC.out w3 HX3.out
 have HN:=hide (HT.out w3 H3.out.1)
 clear c0 c1 c2 c3 HS HT HC H3 HX3 HXD HBD HD HB HX
 by_cases hv:v=0
 ·subst hv
  rw[if_pos rfl]at HN
  go_wp2_with fail
  refine HN.out.mono ?_
  rintro e w4 ⟨rfl,H4⟩
  go_wp2_with fail
  exact bodyPost_end (v:=.tuple #[]) (by simp[results]) rfl ⟨rfl,H4.out⟩
 ·rw[if_neg hv]at HN
  have hvf:(v==0)=false:=by simpa using hv
  go_wp2_with fail
  refine HN.out.mono ?_
  rintro e w4 ⟨rfl,H4⟩
  go_wp2_with fail
  exact bodyPost_end (v:=.tuple #[]) (by simp[results]) rfl ⟨rfl,H4.out⟩
section
variable {p:SyP} {s:Sy} {d:SyD} {w:World}
def Far (d:SyD) (w:World) {m:Nat} (x:Tm m):Prop:=In w.heap.size w m x/\Off (fun q=>0<=d.ow q) m x
theorem Far.up {a m:Nat} {x:Tm m} {d':SyD} {w':World} (h:Far d w x) (k:SyUp a d d' w w'):Far d' w' x:=by
 have h1:=dV k.1 (D:=fun q=>0<=d.ow q/\q<w.heap.size) (fun q z z2=>by omega) ⟨h.1,In.offB h.2 h.1⟩
 exact⟨h1.1,h1.2.mono fun q z=>by rw[k.2.1 q z.2];exact z.1⟩
theorem SyAt.send (h:SyAt p s d w) {a b:Int} (hab:I2 (a,b)) {m:Nat} (x:Tm (m+1)) (hx:Far d w x) (hc:aQ (m+1) x=0) (hn:d.wn<999999) (hL:d.es.length<100000):
    Calls Tryz.prog 61 #[.pointer (some ⟨p.b,0,none⟩),.int .i64 a,.int .i64 b,val (m+1) x] w fun e w'=>e=.returned (.tuple #[])/\Hid (∃d',SyAt p (s.send a b (cn (m+1) x)) d' w'/\SyUp 2 d d' w w'):=by
 obtain⟨v,hv⟩:∃v,v=jT 12 a b (cn (m+1) x) (s.ways (a,b)).length:=⟨_,rfl⟩
 refine Fe p.b a b x.1.1 x.1.2.1 x.1.2.2 x.2.1.1 x.2.2.length x.2.1.2 v w (fun W=>∃d1,SyAt p (if v=0 then {s with ways:=upd s.ways (a,b) (s.ways (a,b)++ [cn (m+1) x])}else s) d1 W/\SyUp 1 d d1 w W) (fun W=>∃d',SyAt p (s.send a b (cn (m+1) x)) d' W/\SyUp 2 d d' w W) (fun W hW=> ?_) fun W hW=> ?_
 ·refine((h.later hW).sendW hab x ((hx.1.below hW).mono hW.size) hc hn).mono ?_
  rintro e w' ⟨rfl,H⟩
  rw[<-hv]at H ⊢
  obtain⟨d1,k1,k2⟩:=H.out
  refine⟨rfl,⟨d1,k1,((SyUp.later d hW).trans k2).mono (Nat.le_refl _)⟩,fun q h1 h2=>k2.1.block q h2 fun z=> ?_⟩
  have:=(h.low q (by omega)).2
  omega
 ·obtain⟨d1,k1,k2⟩:=hW
  have hx1:=hx.up k2
  refine(k1.tell (if v=0 then zn else lX) a b x.1.1 x.1.2.1 x.1.2.2 x.2.1.1 x.2.2.length x.2.1.2 (cn (m+1) x) (jm hx1.1 hc) (by have:=k2.2.2.2.1;omega)).mono ?_
  rintro e w' ⟨rfl,H⟩
  obtain⟨d2,g1,g2⟩:=H.out.up k1
  refine⟨rfl,d2, ?_,(k2.trans g2).mono (Nat.le_refl _)⟩
  unfold Sy.send
  rw[<-hv]
  by_cases h0:v=0
  ·rw[if_pos h0]at g1 ⊢
   rw[if_pos h0]at g1
   exact g1
  ·rw[if_neg h0]at g1 ⊢
   rw[if_neg h0]at g1
   exact g1
end
def SyUn (a c:Nat) (d d':SyD) (w w':World):Prop:=Kee (fun q=>d.ow q≠0) w w'/\(∀q,q<w.heap.size->d'.ow q=d.ow q)/\d'.k<=d.k+c/\d'.es.length<=d.es.length+a/\d'.wn<=d.wn+a/\d'.bn<=d.bn+a
theorem SyUn.trans {a b c e:Nat} {d d1 d2:SyD} {w w1 w2:World} (h:SyUn a c d d1 w w1) (k:SyUn b e d1 d2 w1 w2):SyUn (a+b) (c+e) d d2 w w2:=by
 obtain⟨h1,h2,h3,h4,h5,h6⟩:=h
 obtain⟨k1,k2,k3,k4,k5,k6⟩:=k
 have hs:=h1.size
 exact⟨h1.trans k1 fun q hq e=>by rw[h2 q hq]at e;exact e,fun q hq=>(k2 q (by omega)).trans (h2 q hq),by omega,by omega,by omega,by omega⟩
theorem SyUn.mono {a b c e:Nat} {d d1:SyD} {w w1:World} (h:SyUn a c d d1 w w1) (hab:a<=b) (hce:c<=e):SyUn b e d d1 w w1:=by
 obtain⟨h1,h2,h3,h4,h5,h6⟩:=h
 exact⟨h1,h2,by omega,by omega,by omega,by omega⟩
theorem SyUp.un {a:Nat} {d d1:SyD} {w w1:World} (h:SyUp a d d1 w w1):SyUn a 0 d d1 w w1:=⟨h.1.mono fun q _ e=>by omega,h.2.1,by have:=h.2.2.1;omega,h.2.2.2⟩
theorem BD {α:Type} (k j:Int) (v:α):(l:List (Int×α))->(l.map fun p=>if p.1=k then (k,v)else p).find? (fun p=>p.1==j)=(l.find? fun p=>p.1==j).map fun p=>if p.1=k then (k,v)else p
 | []=>rfl
 | a::l=>by
  rw[List.map_cons,List.find?_cons,List.find?_cons,BD k j v l]
  by_cases h:a.1=k
  ·rw[if_pos h]
   simp only[h]
   cases k==j<;>simp[h]
  ·rw[if_neg h]
   cases a.1==j<;>simp[h]
theorem P1.lie2 {B0 pb:Nat} {name:ByteArray} {room:Int} {cs:Tc} {cms:List Tc} {k:Nat} {M:Nat->Prop} {w:World} (h:P1 B0 pb name room cs cms k M w):∀b,M b->B0<=b/\b<w.heap.size:=by
 obtain⟨base,s,ms,ws,nm,sv,vs,ma,mc,Mh,h1,h2,h3,h4⟩:=h
 exact h4
section
variable {p:SyP} {s:Sy} {d:SyD} {w:World}
theorem get_put (s:Sy) (k j:Int) (v:ByteArray×Tc×List Tc):(s.put k v).get j=if j=k then (s.get k).map fun _=>v else s.get j:=by
 unfold Sy.put Sy.get
 simp only
 rw[BD]
 by_cases h:j=k
 ·subst h
  rw[if_pos rfl]
  cases e:s.ps.find? (fun p=>p.1==j)with
  | none=>rfl
  | some q=>
   have:=List.find?_some e
   simp only[beq_iff_eq]at this
   simp[this]
 ·rw[if_neg h]
  cases e:s.ps.find? (fun p=>p.1==j)with
  | none=>rfl
  | some q=>
   have:=List.find?_some e
   simp only[beq_iff_eq]at this
   simp[this,h]
theorem wM (s:Sy) (k:Int) (v:ByteArray×Tc×List Tc):(s.put k v).ps.map (·.1)=s.ps.map (·.1):=by
 unfold Sy.put
 simp only[List.map_map]
 refine List.map_congr_left fun q _=> ?_
 by_cases h:q.1=k
 ·simp[h]
 ·simp[h]
theorem SyAt.turnP (h:SyAt p s d w) {k:Int} {b:Nat} (hb:bU d.l k=some b) {nm:ByteArray} {cs cs':Tc} {cms cms':List Tc} (hg:s.get k=some (nm,cs,cms)) {w':World} (hk:Kee (fun q=>d.ow q=k) w w') {N:Nat->Prop} {j:Nat} (hN:∀q,N q->d.ow q=k∨w.heap.size<=q) (hj:d.k<=j) (hP:P1 p.lo b nm p.room cs' cms' (j+201) N w') (h20:cms'.length<=20):
    SyAt p (s.put k (nm,cs',cms')) {d with ow:=FI d w w' k,k:=j} w'/\SyUn 0 (j-d.k) d {d with ow:=FI d w w' k,k:=j} w w':=by
 have hk1:=(h.key hb).1
 have hlow:=uk (t:=k) h hk.size h.lo.1
 have hold:=uo (w':=w') (t:=k) h
 have hPl:∀q,N q->p.lo<=q/\q<w'.heap.size:=P1.lie2 hP
 have t:∀{t:Int},t≠k->∀q,d.ow q=t->¬d.ow q=k:=fun ht q e z=>ht (e.symm.trans z)
 have hbx:w'.heap[p.b]? =some (.cells (cZ p s d) 72):=(hk.block p.b h.lo.2 (t (by omega) p.b h.own)).trans h.box
 obtain⟨y1,y2,y3⟩:=h.wyK hk (t (by omega)) hold rfl (oW hbx).1
 obtain⟨e1,e2⟩:=h.evK hk (t (by omega)) hold
 obtain⟨g1,g2,g3,g4,g5,g6⟩:=h.keys
 have hmem:∀q∈(s.put k (nm,cs',cms')).ps,1<=q.1/\q.1<=s.last:=fun q hq=>by
  have:q.1∈(s.put k (nm,cs',cms')).ps.map (·.1):=List.mem_map.2 ⟨q,hq,rfl⟩
  rw[wM]at this
  obtain⟨r,hr,e⟩:=List.mem_map.1 this
  rw[<-e]
  exact g3 r hr
 refine⟨⟨hlow,hbx,(hold p.b (by rw[h.own];decide)).trans h.own,⟨h.pgK hk (t (by omega)) hold,h.pg.2⟩,h.pmK hk (fun q e _=>t (by omega) q e) hold,⟨by rw[wM];exact g1,by rw[wM];exact g2,hmem,g4,g5,by unfold Sy.put;simpa using g6⟩,fun i c q=> ?_,⟨y1,y2,h.wy.2.2.1,h.wy.2.2.2.1,y3⟩,h.bdK hk (t (by omega)) hold rfl (oW hbx).2,e1,h.evt.1,e2⟩,hk.mono fun q _ e=>by rw[e];omega,fun q hq=>if_neg (by omega),by show j<=_;omega,Nat.le_refl _,Nat.le_refl _,Nat.le_refl _⟩
 by_cases hik:i=k
 ·subst hik
  have q:bU d.l i=some c:=q
  rw[hb]at q
  obtain rfl:=Option.some.inj q
  refine⟨nm,cs',cms',by rw[get_put,if_pos rfl,hg];rfl,hP.mono (fun q z=> ?_) (Nat.le_refl _) fun q z=>hlow q (by have z:FI d w w' i q=i:=z;rw[z];omega),h20⟩
  rcases hN q z with z1|z1
  ·exact(hold q (by rw[z1];omega)).trans z1
  ·exact if_pos ⟨z1,(hPl q z).2⟩
 ·obtain⟨a1,a2,a3,a4,a5⟩:=h.psK hk hj (t hik) hold hlow q
  exact⟨a1,a2,a3,by rw[get_put,if_neg hik];exact a4,a5⟩
end
theorem IQ (sb pb:Nat) (mo:Option Nat) (a b x0 x1:Int) (x2:ByteArray) (xa:Option Addr) (xl xc:Nat) (v:Int) (w:World) (R1 R:World->Prop) (hsb:sb<w.heap.size) (HC3:Hid (w.cell? ⟨sb,3,none⟩=some (.map mo)))
    (HLK:Hid (∀W,Below w.heap.size w W->(Instr.lookup 64 (.map mo) (.int .i64 b) false).run Tryz.prog W=.ok (.pointer (some ⟨pb,0,none⟩)) W))
    (HS:Hid (∀W,Below w.heap.size w W->Calls Tryz.prog 64 #[.pointer (some ⟨pb,0,none⟩),.agg #[.int .i64 x0,.int .i64 x1,.string x2,.slice xa xl xc]] W fun e w'=>e=.returned (.int .i64 v)/\Hid (R1 w'/\∀q,w.heap.size<=q->q<W.heap.size->w'.heap[q]? =W.heap[q]?)))
    (HT:Hid (v=2->∀W,R1 W->Calls Tryz.prog 35 #[.pointer (some ⟨sb,0,none⟩),.string ⟨#[108,111,115,116]⟩,.int .i64 a,.int .i64 b,.agg #[.int .i64 x0,.int .i64 x1,.string x2,.slice xa xl xc]] W fun e w'=>e=.returned (.tuple #[])/\Hid (R w')))
    (HE:Hid (v=6->∀W,R1 W->Calls Tryz.prog 37 #[.pointer (some ⟨sb,0,none⟩),.int .i64 b,.int .i64 3] W fun e w'=>e=.returned (.tuple #[])/\Hid (R w'))) (HO:Hid (v≠2->v≠6->∀W,R1 W->R W)):
    Calls Tryz.prog 41 #[.pointer (some ⟨sb,0,none⟩),.int .i64 a,.int .i64 b,.agg #[.int .i64 x0,.int .i64 x1,.string x2,.slice xa xl xc]] w fun e w'=>e=.returned (.tuple #[])/\Hid (R w'):=by
 go_enter Tryz.func41,Tryz.ntmps41
 go_upto_region 1 with fail
 generalize hw2:w.alloc _=w2
 have H0:Hid (Below w.heap.size w w2/\w2.heap[w.heap.size]? =some (.cells #[.int .i64 x0,.int .i64 x1,.string x2,.slice xa xl xc] 30)):=by
  rw[<-hw2]
  exact⟨(Below.refl _ _).alloc (Nat.le_refl _) _,heap_alloc_new _ _⟩
 clear hw2
 obtain⟨q,hq⟩:∃q,q=w.heap.size:=⟨_,rfl⟩
 rw[<-hq]
 have HX:Hid (w2.heap[q]? =some (.cells #[.int .i64 x0,.int .i64 x1,.string x2,.slice xa xl xc] 30)):=by rw[hq];exact H0.out.2
 have HB:=hide H0.out.1
 have HQ:=hide hq
 clear hq H0
 have HD:Hid (Below w2.heap.size w2 w2.drew):=(Below.refl _ _).drew
 have HBD:=hide (HB.out.trans (HD.out.mono HB.out.size))
 have HXD:=hide (eU HD.out HX.out)
 have HC:Hid (∀W:World,W.heap[q]? =some (.cells #[.int .i64 x0,.int .i64 x1,.string x2,.slice xa xl xc] 30)->W.cell? ⟨q,0,none⟩=some (.int .i64 x0)/\W.cell? ⟨q,1,none⟩=some (.int .i64 x1)/\W.cell? ⟨q,2,none⟩=some (.string x2)/\W.cell? ⟨q,3,none⟩=some (.slice xa xl xc)):=fun W h=>⟨ae h 0,ae h 1,ae h 2,ae h 3⟩
 obtain⟨c0,c1,c2,c3⟩:=HC.out w2 HX.out
 have c4:w2.cell? ⟨sb,3,none⟩=some (.map mo):=(HB.out.cell (p:=⟨sb,3,none⟩) hsb).trans HC3.out
 have hl:=HLK.out w2.drew HBD.out
 go_region_with ((first
     | (go_at_call 64;refine(HS.out _ HBD.out).mono ?_;rintro e w3 ⟨rfl,H3⟩;have HX3:Hid (w3.heap[q]? =some (.cells #[.int .i64 x0,.int .i64 x1,.string x2,.slice xa xl xc] 30)):=(H3.out.2 q (by have:=HQ.out;omega) (Array.getElem?_eq_some_iff.1 HXD.out).1).trans HXD.out)))
 all_goals
  obtain⟨d0,d1,d2,d3⟩:=HC.out w3 HX3.out
  have HR1:=hide H3.out.1
  clear c0 c1 c2 c3 c4 hl HLK HS HC H3 HX3 HXD HBD HD HB HX
  by_cases hv2:v=2
  ·subst hv2
   have HN:=hide (HT.out (by simp) w3 HR1.out)
   clear HT HE HO
   go_wp2_with fail
   refine HN.out.mono ?_
   rintro e w4 ⟨rfl,H4⟩
   go_wp2_with fail
   exact bodyPost_end (v:=.tuple #[]) (by simp[results]) rfl ⟨rfl,H4.out⟩
  ·have hf2:(v==2)=false:=by simpa using hv2
   by_cases hv6:v=6
   ·subst hv6
    have HN:=hide (HE.out (by simp) w3 HR1.out)
    clear HT HE HO
    go_wp2_with fail
    refine HN.out.mono ?_
    rintro e w4 ⟨rfl,H4⟩
    go_wp2_with fail
    exact bodyPost_end (v:=.tuple #[]) (by simp[results]) rfl ⟨rfl,H4.out⟩
   ·have hf6:(v==6)=false:=by simpa using hv6
    have HN:=hide (HO.out hv2 hv6 w3 HR1.out)
    clear HT HE HO
    go_wp2_with fail
    exact bodyPost_end (v:=.tuple #[]) (by simp[results]) rfl ⟨rfl,HN.out⟩
theorem Oa {m:Nat} {x:Tm m} (hc:aQ m x=0) (room:Int) (s:Tc) (ms:List Tc):jC m x room s ms=jC 13 (cn m x) room s ms:=by
 have hk:=dC hc
 unfold jC
 rw[aX hk,bD _ _ _ _ hk,FH hc]
theorem BA {α:Type} (k:Int) (v:α):(l:List (Int×α))->(l.map (·.1)).Nodup->(l.find? fun p=>p.1==k).map (·.2)=some v->(l.map fun p=>if p.1=k then (k,v)else p)=l
 | [],_,_=>rfl
 | a::l,hn,h=>by
  rw[List.map_cons,List.nodup_cons]at hn
  rw[List.find?_cons]at h
  rw[List.map_cons]
  by_cases hk:a.1=k
  ·have h1:(a.1==k)=true:=by simpa using hk
   rw[h1]at h
   have h2:a.2=v:=by simpa using h
   rw[if_pos hk]
   congr 1
   ·rw[<-h2,<-hk]
   ·refine(List.map_congr_left fun q hq=> ?_).trans (List.map_id l)
    rw[if_neg fun e=>hn.1 (List.mem_map.2 ⟨q,hq,e.trans hk.symm⟩)]
    rfl
  ·have h1:(a.1==k)=false:=by simpa using hk
   rw[h1]at h
   rw[if_neg hk,BA k v l hn.2 h]
theorem wI {s:Sy} {k:Int} {v:ByteArray×Tc×List Tc} (hn:(s.ps.map (·.1)).Nodup) (hg:s.get k=some v):s.put k v=s:=by
 unfold Sy.put
 rw[BA k v s.ps hn hg]
section
variable {p:SyP} {s:Sy} {d:SyD} {w:World}
theorem SyAt.deliver (h:SyAt p s d w) {a b:Int} (hb:bR b) {nm:ByteArray} {cs:Tc} {cms:List Tc} (hg:s.get b=some (nm,cs,cms)) {m:Nat} (x:Tm (m+1)) (hx:In w.heap.size w (m+1) x/\Off (fun q=>¬1<=d.ow q) (m+1) x) (hc:aQ (m+1) x=0) (hk:d.k<=47000) (hL:d.es.length<=98000):
    Calls Tryz.prog 41 #[.pointer (some ⟨p.b,0,none⟩),.int .i64 a,.int .i64 b,val (m+1) x] w fun e w'=>e=.returned (.tuple #[])/\Hid (∃d',SyAt p (s.deliver p.room a b (cn (m+1) x)) d' w'/\SyUn 100 201 d d' w w'):=by
 obtain⟨pb,hpb⟩:∃pb,bU d.l b=some pb:=by
  have:=h.alive b
  rw[hg]at this
  cases e:bU d.l b with
  | none=>rw[e]at this;cases this
  | some pb=>exact⟨pb,rfl⟩
 obtain⟨nm',cs',cms',g1,g2,g3⟩:=h.ps b pb hpb
 rw[hg]at g1
 obtain⟨rfl,rfl,rfl⟩:nm=nm'/\cs=cs'/\cms=cms':=by
  injection g1 with g1
  injection g1 with e1 e2
  injection e2 with e2 e3
  exact⟨e1,e2,e3⟩
 have hb1:=(h.key hpb).1
 obtain⟨v,hv⟩:∃v,v=jC 13 (cn (m+1) x) p.room cs cms:=⟨_,rfl⟩
 have hnc:aQ 13 (cn (m+1) x)=0:=(aX (dC hc)).trans hc
 refine IQ p.b pb d.po a b x.1.1 x.1.2.1 x.1.2.2 x.2.1.1 x.2.2.length x.2.1.2 v w (fun W=>∃d1,SyAt p (if v=0 then s.put b (nm,cs,cms++ [cn (m+1) x])else s.put b (nm,cs,cms)) d1 W/\SyUn 0 201 d d1 w W/\In W.heap.size W (m+1) x) (fun W=>∃d',SyAt p (s.deliver p.room a b (cn (m+1) x)) d' W/\SyUn 100 201 d d' w W) h.lo.2 h.cells.2.2.2 (fun W hW=> ?_) (fun W hW=> ?_) (fun e W hW=> ?_) (fun e W hW=> ?_) fun e1 e2 W hW=> ?_
 ·have:=(h.later hW).look b false
  rw[hpb]at this
  exact this
 ·have hP:=g2.later hW
  have hxi:=(hx.1.below hW).mono hW.size
  refine(hP.deliver x hxi (hx.2.mono fun q z z2=>z (by rw[show d.ow q=b from z2];exact hb1)) (dS hc) (by omega) (by omega) (Nat.le_trans h.lo.1 hW.size)).mono ?_
  rintro e w' ⟨rfl,H⟩
  rw[Oa hc,<-hv]at H ⊢
  obtain⟨k1,k2⟩:=H.out
  have hkk:Kee (fun q=>d.ow q=b) W w':=⟨k1.os,k1.tape,k1.output,k1.size,k1.block⟩
  have h20:(if v=0 then cms++ [cn (m+1) x]else cms).length<=20:=by
   split
   ·rename_i h0
    rw[hv]at h0
    unfold jC at h0
    split at h0
    ·cases h0
    ·simp
     omega
   ·exact g3
  obtain⟨q1,q2⟩:=(h.later hW).turnP hpb hg hkk (fun q z=>z.1) (show d.k<=d.k+201 by omega) k2 h20
  refine⟨rfl,⟨_, ?_,(((SyUp.later d hW).un.trans q2).mono (Nat.le_refl _) (by omega)), ?_⟩,fun q z1 z2=>hkk.block q z2 fun z=> ?_⟩
  ·split
   ·rename_i h0
    rw[if_pos h0]at q1
    exact q1
   ·rename_i h0
    rw[if_neg h0]at q1
    exact q1
  ·exact(dV hkk (D:=fun q=>¬1<=d.ow q) (fun q z z2=>z (by rw[z2];exact hb1)) ⟨hxi,hx.2⟩).1
  ·have:=(h.low q (by rw[z];omega)).2
   omega
 ·obtain⟨d1,k1,k2,k3⟩:=hW
  rw[if_neg (by rw[e];decide),wI h.keys.2.1 hg]at k1
  refine(k1.tell lX a b x.1.1 x.1.2.1 x.1.2.2 x.2.1.1 x.2.2.length x.2.1.2 (cn (m+1) x) (jm k3 hc) (by have:=k2.2.2.2.1;omega)).mono ?_
  rintro e' w' ⟨rfl,H⟩
  obtain⟨d2,q1,q2⟩:=H.out.up k1
  refine⟨rfl,d2, ?_,(k2.trans q2.un).mono (by omega) (by omega)⟩
  unfold Sy.deliver
  rw[hg]
  simp only
  rw[<-hv,if_pos e]
  exact q1
 ·obtain⟨d1,k1,k2,k3⟩:=hW
  rw[if_neg (by rw[e];decide),wI h.keys.2.1 hg]at k1
  refine(k1.fin (how:=3) hb (by have:=k2.2.2.2.1;omega)).mono ?_
  rintro e' w' ⟨rfl,H⟩
  obtain⟨d2,q1,q2⟩:=H.out
  refine⟨rfl,d2, ?_,(k2.trans q2.un).mono (by omega) (by omega)⟩
  unfold Sy.deliver
  rw[hg]
  simp only
  rw[<-hv,if_neg (by rw[e];decide),if_pos e]
  exact q1
 ·obtain⟨d1,k1,k2,k3⟩:=hW
  refine⟨d1, ?_,k2.mono (by omega) (Nat.le_refl _)⟩
  unfold Sy.deliver
  rw[hg]
  simp only
  rw[<-hv,if_neg e1,if_neg e2]
  by_cases h0:v=0
  ·rw[if_pos h0]at k1 ⊢
   exact k1
  ·rw[if_neg h0]at k1 ⊢
   rw[wI h.keys.2.1 hg]at k1
   exact k1
end
theorem Dm (sb:Nat) (a x0 x1:Int) (x2:ByteArray) (xa:Option Addr) (xl xc:Nat) (al cl:Bool) (ck:Int) (w:World) (R:Int->World->Prop)
    (HA:Hid (∀W,Below w.heap.size w W->Calls Tryz.prog 40 #[.pointer (some ⟨sb,0,none⟩),.int .i64 a] W fun e w'=>e=.returned (.bool al)/\w'=W))
    (HK:Hid (∀W,Below w.heap.size w W->Calls Tryz.prog 42 #[.agg #[.int .i64 x0,.int .i64 x1,.string x2,.slice xa xl xc]] W fun e w'=>e=.returned (.int .i64 ck)/\Below W.heap.size W w'))
    (HC:Hid (∀W,Below w.heap.size w W->Calls Tryz.prog 43 #[.agg #[.int .i64 x0,.int .i64 x1,.string x2,.slice xa xl xc]] W fun e w'=>e=.returned (.bool cl)/\Below W.heap.size W w'))
    (HD:Hid (al=true->ck=0->cl=true->∀W,Below w.heap.size w W->Calls Tryz.prog 41 #[.pointer (some ⟨sb,0,none⟩),.int .i64 0,.int .i64 a,.agg #[.int .i64 x0,.int .i64 x1,.string x2,.slice xa xl xc]] W fun e w'=>e=.returned (.tuple #[])/\Hid (R 0 w')))
    (HR:Hid (∀W,Below w.heap.size w W->(al=false->R 4 W)/\(al=true->ck≠0->R ck W)/\(al=true->ck=0->cl=false->R 5 W))):
    Calls Tryz.prog 19 #[.pointer (some ⟨sb,0,none⟩),.int .i64 a,.agg #[.int .i64 x0,.int .i64 x1,.string x2,.slice xa xl xc]] w fun e w'=>∃v,e=.returned (.int .i64 v)/\Hid (R v w'):=by
 go_enter Tryz.func19,Tryz.ntmps19
 go_upto_region 1 with fail
 generalize hw0:w.alloc _=w0
 have H0:Hid (Below w.heap.size w w0/\w0.heap[w.heap.size]? =some (.cells #[.int .i64 x0,.int .i64 x1,.string x2,.slice xa xl xc] 30)):=by
  rw[<-hw0]
  exact⟨(Below.refl _ _).alloc (Nat.le_refl _) _,heap_alloc_new _ _⟩
 clear hw0
 go_wp2_with fail
 refine(HA.out _ H0.out.1).mono ?_
 rintro e w1 ⟨rfl,hw1⟩
 obtain rfl:=hw1.symm
 clear hw1 HA
 cases al
 ·have HF:=hide ((HR.out w0 H0.out.1).1 rfl)
  go_wp2_with fail
  go_ret
  exact⟨4,rfl,HF.out⟩
 have hx:=H0.out.2
 obtain⟨c0,c1,c2,c3⟩:=QH hx
 clear hx
 go_wp2_with fail
 refine(HK.out _ H0.out.1).mono ?_
 rintro e w2 ⟨rfl,hb2⟩
 have H2:=hide (⟨H0.out.1.trans (hb2.mono H0.out.1.size),eU hb2 H0.out.2⟩:_/\_)
 clear c0 c1 c2 c3 hb2
 by_cases hk:ck=0
 rotate_left
 ·have HF:=hide ((HR.out w2 H2.out.1).2.1 (by simp) hk)
  have hkb:(ck !=0)=true:=by simpa using hk
  go_wp2_with fail
  go_ret
  exact⟨ck,rfl,HF.out⟩
 subst hk
 have hx:=H2.out.2
 obtain⟨c0,c1,c2,c3⟩:=QH hx
 clear hx
 go_wp2_with fail
 refine(HC.out _ H2.out.1).mono ?_
 rintro e w3 ⟨rfl,hb3⟩
 have H3:=hide (⟨H2.out.1.trans (hb3.mono H2.out.1.size),eU hb3 H2.out.2⟩:_/\_)
 clear c0 c1 c2 c3 hb3
 cases cl
 ·have HF:=hide ((HR.out w3 H3.out.1).2.2 (by simp) (by simp) (by simp))
  go_wp2_with fail
  go_ret
  exact⟨5,rfl,HF.out⟩
 have hx:=H3.out.2
 obtain⟨c0,c1,c2,c3⟩:=QH hx
 have HN:=hide (HD.out (by simp) (by simp) (by simp) w3 H3.out.1)
 clear hx
 go_wp2_with fail
 refine HN.out.mono ?_
 rintro e w4 ⟨rfl,H4⟩
 go_wp2_with fail
 go_ret
 exact⟨0,rfl,H4.out⟩
section
variable {p:SyP} {s:Sy} {d:SyD} {w:World}
theorem SyAt.inject (h:SyAt p s d w) {a:Int} (ha:bR a) {m:Nat} (x:Tm (m+1)) (hx:In w.heap.size w (m+1) x/\Off (fun q=>¬1<=d.ow q) (m+1) x) (hN:(nodes (m+1) x).length<=2097152) (hk:d.k<=47000) (hL:d.es.length<=98000):
    Calls Tryz.prog 19 #[.pointer (some ⟨p.b,0,none⟩),.int .i64 a,val (m+1) x] w fun e w'=>∃v,e=.returned (.int .i64 v)/\Hid (v=(s.inject p.room a (m+1) x).2/\∃d',SyAt p (s.inject p.room a (m+1) x).1 d' w'/\SyUn 100 201 d d' w w'):=by
 have hst:∀W,Below w.heap.size w W->SyUn 100 201 d d w W:=fun W hW=>(SyUp.later d hW).un.mono (Nat.zero_le _) (Nat.zero_le _)
 refine Dm p.b a x.1.1 x.1.2.1 x.1.2.2 x.2.1.1 x.2.2.length x.2.1.2 (s.get a).isSome (av (m+1) x) (aQ (m+1) x) w (fun v w'=>v=(s.inject p.room a (m+1) x).2/\∃d',SyAt p (s.inject p.room a (m+1) x).1 d' w'/\SyUn 100 201 d d' w w') (fun W hW=>(h.later hW).isAlive a) (fun W hW=>dh (m+1) x w.heap.size W (hx.1.below hW) hW.size hN) (fun W hW=>gN (m+1) x w.heap.size W (hx.1.below hW) hW.size) (fun e1 e2 e3 W hW=> ?_) fun W hW=>⟨fun e=> ?_,fun e1 e2=> ?_,fun e1 e2 e3=> ?_⟩
 ·obtain⟨v,hg⟩:=Option.isSome_iff_exists.1 e1
  obtain⟨nm,cs,cms⟩:=v
  refine((h.later hW).deliver ha hg x ⟨(hx.1.below hW).mono hW.size,hx.2⟩ e2 hk hL).mono ?_
  rintro e w' ⟨rfl,H⟩
  obtain⟨d',k1,k2⟩:=H.out
  have e:s.inject p.room a (m+1) x=(s.deliver p.room 0 a (cn (m+1) x),0):=by
   unfold Sy.inject
   rw[if_neg (by rw[e1];decide),if_neg (by rw[e2];decide),if_neg (by rw[e3];decide)]
  rw[e]
  exact⟨rfl,rfl,d',k1,((SyUp.later d hW).un.trans k2).mono (by omega) (by omega)⟩
 ·have e:s.inject p.room a (m+1) x=(s,4):=if_pos e
  rw[e]
  exact⟨rfl,d,h.later hW,hst W hW⟩
 ·have e:s.inject p.room a (m+1) x=(s,aQ (m+1) x):=by
    unfold Sy.inject
    rw[if_neg (by rw[e1];decide),if_pos e2]
  rw[e]
  exact⟨rfl,d,h.later hW,hst W hW⟩
 ·have e:s.inject p.room a (m+1) x=(s,5):=by
    unfold Sy.inject
    rw[if_neg (by rw[e1];decide),if_neg (by rw[e2];decide),if_pos e3]
  rw[e]
  exact⟨rfl,d,h.later hW,hst W hW⟩
end
end Go.Proofs.YtmbjgiaebneodaaGreat
