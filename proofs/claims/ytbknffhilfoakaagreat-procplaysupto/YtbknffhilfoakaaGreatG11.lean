/- What is proved here: plain facts and contracts that the claimed theorem stands on. No condition but those that each names. -/
import Derived.Lib.SliceRun
import Derived.Deep.RegionLaw
import Derived.Laws.CopyRow
import Derived.Maps.RangeWalk
import Derived.WideKeyPair
import Derived.WideKeyEntry
import Derived.Test.YtbknffhilfoakaaGreatG09
namespace Go.Proofs.YtbknffhilfoakaaGreat
open Go.RowKit
open Go.RowKit Go.Maps
set_option maxHeartbeats 2000000
set_option maxRecDepth 100000
theorem p8 {w w':World} {g:Nat} (h:w.grownBy w' (some g)):∀b o,b<w.heap.size->b≠g->w'.cell? ⟨b,o,none⟩=w.cell? ⟨b,o,none⟩:=
 fun b o hb hne=>World.cell?_of_block (a:=⟨b,o,none⟩) (h.block b hb (by simpa using hne))
theorem nV {w w':World} {row:Option Nat} (h:w.drew.grownBy w' row):w.grownBy w' row:=⟨h.os,h.tape,h.output,h.size,h.block⟩
theorem Em (p q:Nat) (a a':Option Addr) (pc qc:Nat) (g c:Nat) (base:Nat) (w:World) (_hpc:p<=9223372036854775807) (_hqc:q<=9223372036854775807) (hl:((p:Int)==(q:Int))=false):
    Calls Tryz.prog 109 #[.slice (some ⟨g,0,none⟩) 4 c,.slice a p pc,.slice a' q qc] w (FitPost base g c none w):=by
 have hl':((p:Int) !=(q:Int))=true:=by simpa using hl
 go_enter Tryz.func109,Tryz.ntmps109
 go_wp2_with fail
 go_ret
 exact⟨rfl,World.grownBy.refl _ _,fun b e=>by cases e⟩
theorem fitAll_nil (a a':Option Addr) (pc qc:Nat) (g c:Nat) (base:Nat) (b:List An) (w:World) (H:Has base g c b w):
    Calls Tryz.prog 109 #[.slice (some ⟨g,0,none⟩) 4 c,.slice a 0 pc,.slice a' 0 qc] w (FitPost base g c (some b) w):=by
 have HH:=hide H
 clear H
 go_enter Tryz.func109,Tryz.ntmps109
 go_wp2_with fail
 go_loop [16] (fun i=>i=.int .i64 0) (fun _=>0)
 case atStart=>rfl
 case round=>
  obtain rfl:=hrel
  go_wp2_with fail
  go_ret
  exact⟨rfl,World.grownBy.refl _ _,fun b' e=>by obtain rfl:=Option.some.inj e;exact HH.out⟩
theorem De (n m:Nat) (ih:Jv n) (p:List (Tm n)) (q:List (Tm m)) (len:Nat) (hpl:Hid (p.length=len)) (hql:Hid (q.length=len)) (pb po qb qo pc qc:Nat) (b:List An) (base g c B:Nat) (w:World)
    (hlen:len<=9223372036854775807) (hpb:pb<B) (hqb:qb<B)
    (hp:∀(i:Nat) (y:Tm n),p[i]? =some y->Held w pb (po+i*4) n y/\In B w n y)
    (hq:∀(i:Nat) (y:Tm m),q[i]? =some y->Held w qb (qo+i*4) m y/\In B w m y)
    (hrp:∀y∈p,ak ⟨n,y⟩) (hrq:∀y∈q,ak ⟨m,y⟩) (hb:Hid (Bnd B w b)) (hB:B<=base) (H:Hid (Has base g c b w)):
    Calls Tryz.prog 109 #[.slice (some ⟨g,0,none⟩) 4 c,.slice (some ⟨pb,po,none⟩) len pc,.slice (some ⟨qb,qo,none⟩) len qc] w (FitPost base g c (eO (fun x y b=>fit n x m y b) p q b) w):=by
 have hg1:B<=g:=Nat.le_trans hB H.out.lt.1
 have hg2:g<w.heap.size:=H.out.lt.2
 go_enter Tryz.func109,Tryz.ntmps109
 go_wp2_with fail
 go_loopw [16] (fun i wr=>∃k:Nat,k<=len/\i=.int .i64 k/\Hid (w.grownBy wr (some g)/\∃b',Has base g c b' wr/\Bnd B wr b'/\eO (fun x y b=>fit n x m y b) (p.drop k) (q.drop k) b'=eO (fun x y b=>fit n x m y b) p q b)) (fun i _=>len-(intOf i).toNat)
 case atStart=>exact⟨0,by omega,rfl,World.grownBy.refl _ _,b,H.out,hb.out,rfl⟩
 case round=>
  obtain⟨k,hk,rfl,HR⟩:=hrel
  by_cases hlt:k<len
  ·obtain⟨x,hx⟩:∃x,p[k]? =some x:=⟨p[k]'(by rw[hpl.out];exact hlt),List.getElem?_eq_getElem _⟩
   obtain⟨y,hy⟩:∃y,q[k]? =some y:=⟨q[k]'(by rw[hql.out];exact hlt),List.getElem?_eq_getElem _⟩
   obtain⟨HG,b',HH,HN,HF⟩:Hid (w.grownBy wr (some g))/\∃b',Hid (Has base g c b' wr)/\Hid (Bnd B wr b')/\Hid (eO (fun x y b=>fit n x m y b) (p.drop k) (q.drop k) b'=eO (fun x y b=>fit n x m y b) p q b):=HR.out
   clear HR
   obtain⟨hx1,hx2⟩:=hp k x hx
   obtain⟨hy1,hy2⟩:=hq k y hy
   have HS:=hide (Ez (fun x y b=>fit n x m y b) p q k x y hx hy b')
   have HRX:=hide (hrp x (List.mem_of_getElem? hx))
   have HRY:=hide (hrq y (List.mem_of_getElem? hy))
   have hbw:=iy HG.out hg1 hg2
   replace hx1:=hx1.below hbw hpb
   replace hy1:=hy1.below hbw hqb
   replace hx2:=hx2.below hbw
   replace hy2:=hy2.below hbw
   have hgr:g<wr.heap.size:=Nat.lt_of_lt_of_le hg2 HG.out.size
   have hB':B<=wr.heap.size:=by omega
   clear hp hq hx hy hrp hrq hb H hbw
   cases n with
   | zero=>exact hx1.elim
   | succ n=>
   cases m with
   | zero=>exact hy1.elim
   | succ m=>
   obtain⟨x0,x1,x2,x3⟩:=hx1
   obtain⟨y0,y1,y2,y3⟩:=hy1
   have HC:Hid (∀(w1:World),Below wr.heap.size wr w1->Calls Tryz.prog 94 #[.slice (some ⟨g,0,none⟩) 4 c,.agg #[.int .i64 x.1.1,.int .i64 x.1.2.1,.string x.1.2.2,.slice x.2.1.1 x.2.2.length x.2.1.2],.agg #[.int .i64 y.1.1,.int .i64 y.1.2.1,.string y.1.2.2,.slice y.2.1.1 y.2.2.length y.2.1.2]] w1 (FitPost base g c (fit (n+1) x (m+1) y b') w1)):=
    fun w1 h1=>ih x (m+1) y b' base g c B w1 (hx2.below (h1.mono hB')) (hy2.below (h1.mono hB')) HRX.out HRY.out (HN.out.below (h1.mono hB')) hB (HH.out.below h1)
   have HK:Hid (∀r b2,fit (n+1) x (m+1) y b'=r->r=some b2->Bnd B wr b2):=fun r b2 e1 e2=>HN.out.fit hy2 HRY.out (e1.trans e2)
   clear ih hx2 hy2 HRX HRY HN
   replace HS:Hid (eO (fun x y b=>fit (n+1) x (m+1) y b) (p.drop k) (q.drop k) b'=(fit (n+1) x (m+1) y b').bind (eO (fun x y b=>fit (n+1) x (m+1) y b) (p.drop (k+1)) (q.drop (k+1)))):=HS
   generalize fit (n+1) x (m+1) y b'=r at*
   generalize x.2.2.length=xl at*
   generalize y.2.2.length=yl at*
   have hk1:(0:Int)<=(k:Int):=by omega
   have hk2:(k:Int)<(len:Int):=by omega
   have hpw:pb<wr.heap.size:=by omega
   have hqw:qb<wr.heap.size:=by omega
   have hqw1:qb<wr.heap.size+1:=by omega
   have hqg:qb≠g:=by omega
   have hwg:wr.heap.size≠g:=by omega
   have HCD:=hide (HC.out (wr.alloc (.cells #[.int .i64 x.1.1,.int .i64 x.1.2.1,.string x.1.2.2,.slice x.2.1.1 xl x.2.1.2] 25)).drew (((Below.refl _ _).alloc (Nat.le_refl _) _).drew))
   clear HC
   go_wp2_with fail
   go_region_held3 (fun w'=>w'.cell? ⟨wr.heap.size,0,none⟩=some (.int .i64 x.1.1)/\w'.cell? ⟨wr.heap.size,1,none⟩=some (.int .i64 x.1.2.1)/\w'.cell? ⟨wr.heap.size,2,none⟩=some (.string x.1.2.2)/\w'.cell? ⟨wr.heap.size,3,none⟩=some (.slice x.2.1.1 xl x.2.1.2)
       /\w'.cell? ⟨qb,qo+k*4,none⟩=some (.int .i64 y.1.1)/\w'.cell? ⟨qb,qo+k*4+1,none⟩=some (.int .i64 y.1.2.1)/\w'.cell? ⟨qb,qo+k*4+2,none⟩=some (.string y.1.2.2)/\w'.cell? ⟨qb,qo+k*4+3,none⟩=some (.slice y.2.1.1 yl y.2.1.2))
    (go_keep) ((go_at_call 94;refine HCD.out.mono ?_;rintro e w1 ⟨rfl,hgr1,hhas1⟩;have hcc:=p8 (nV hgr1);have HG1:=hide (nV hgr1);have HH1:=hide hhas1;clear hgr1 hhas1))
   have HG2:Hid (w.grownBy w1 (some g)):=jw HG.out (jw (World.grownBy_alloc wr _ _) HG1.out)
   clear hcc
   cases r with
   | some b2=>
    have HN2:Hid (Bnd B w1 b2):=(HK.out _ b2 rfl rfl).below ((((Below.refl _ _).alloc (Nat.le_refl _) _).mono hB').trans (iy HG1.out hg1 (by simp;omega)))
    clear HK
    simp only[Option.isSome_some]
    go_wp2_with fail
    go_roundw
    case rel=>exact⟨k+1,by omega,by go_num,HG2.out,b2,HH1.out b2 rfl,HN2.out,by rw[<-HF.out,HS.out];rfl⟩
    case measure=>simp[intOf];omega
   | none=>
    clear HK
    simp only[Option.isSome_none]
    go_wp2_with fail
    go_ret
    have ho:eO (fun x y b=>fit (n+1) x (m+1) y b) p q b=none:=by rw[<-HF.out,HS.out];rfl
    rw[ho]
    exact⟨rfl,HG2.out,fun b' e=>by cases e⟩
  ·obtain⟨HG,b',HH,HN,HF⟩:Hid (w.grownBy wr (some g))/\∃b',Hid (Has base g c b' wr)/\Hid (Bnd B wr b')/\Hid (eO (fun x y b=>fit n x m y b) (p.drop k) (q.drop k) b'=eO (fun x y b=>fit n x m y b) p q b):=HR.out
   clear HR
   go_wp2_with fail
   go_ret
   have ho:eO (fun x y b=>fit n x m y b) p q b=some b':=by rw[<-HF.out,List.drop_eq_nil_of_le (by rw[hpl.out];omega)];rfl
   rw[ho]
   exact⟨rfl,HG.out,fun b2 e=>by obtain rfl:=Option.some.inj e;exact HH.out⟩
theorem Bz (n m:Nat) (ih:Jv n) (p:List (Tm n)) (q:List (Tm m)) (a a':Option Addr) (pc qc:Nat) (b:List An) (base g c B:Nat) (w:World)
    (hp:p=[]∨∃b o,a=some ⟨b,o,none⟩/\b<B/\∀(i:Nat) (y:Tm n),p[i]? =some y->Held w b (o+i*4) n y/\In B w n y)
    (hq:q=[]∨∃b o,a'=some ⟨b,o,none⟩/\b<B/\∀(i:Nat) (y:Tm m),q[i]? =some y->Held w b (o+i*4) m y/\In B w m y)
    (hpl:p.length<=9223372036854775807) (hql:q.length<=9223372036854775807) (hrp:∀y∈p,ak ⟨n,y⟩) (hrq:∀y∈q,ak ⟨m,y⟩) (hb:Bnd B w b) (hB:B<=base) (H:Has base g c b w):
    Calls Tryz.prog 109 #[.slice (some ⟨g,0,none⟩) 4 c,.slice a p.length pc,.slice a' q.length qc] w (FitPost base g c (if p.length=q.length then eO (fun x y b=>fit n x m y b) p q b else none) w):=by
 by_cases hl:p.length=q.length
 ·rw[if_pos hl]
  rcases hp with hp|⟨pb,po,rfl,hpb,hp⟩
  ·subst hp
   have hq0:q=[]:=List.eq_nil_of_length_eq_zero hl.symm
   subst hq0
   exact fitAll_nil a a' pc qc g c base b w H
  ·rcases hq with hq|⟨qb,qo,rfl,hqb,hq⟩
   ·subst hq
    have hp0:p=[]:=List.eq_nil_of_length_eq_zero hl
    subst hp0
    exact fitAll_nil _ a' pc qc g c base b w H
   ·have h:=De n m ih p q p.length rfl hl.symm pb po qb qo pc qc b base g c B w (by omega) hpb hqb hp hq hrp hrq hb hB H
    rw[<-hl]
    exact h
 ·rw[if_neg hl]
  exact Em p.length q.length a a' pc qc g c base w hpl hql (by simp;omega)
theorem FitPost.from {base g c:Nat} {o:Option (List An)} {w w1:World} (h:w.grownBy w1 (some g)) {e:Ending} {w2:World} (k:FitPost base g c o w1 e w2):FitPost base g c o w e w2:=
 ⟨k.1,jw h k.2.1,k.2.2⟩
theorem Dm (k u k' u':Int) (s s':ByteArray) (a a':Option Addr) (l l' pc qc:Nat) (base g c:Nat) (b:List An) (o1 o2:Option (List An)) (sm:Bool) (w:World) (HH:Hid (Has base g c b w))
    (HV:Hid (k=5->∀w1,Below w.heap.size w w1->Calls Tryz.prog 108 #[.slice (some ⟨g,0,none⟩) 4 c,.int .i64 u,.agg #[.int .i64 k',.int .i64 u',.string s',.slice a' l' qc]] w1 (FitPost base g c o1 w1)))
    (HA:Hid (∀w1,Below w.heap.size w w1->Calls Tryz.prog 109 #[.slice (some ⟨g,0,none⟩) 4 c,.slice a l pc,.slice a' l' qc] w1 (FitPost base g c o2 w1)))
    (HO:Hid (∀w1,Below w.heap.size w w1->Calls Tryz.prog 110 #[.agg #[.int .i64 k,.int .i64 u,.string s,.slice a l pc],.agg #[.int .i64 k',.int .i64 u',.string s',.slice a' l' qc]] w1 fun e w'=>∃r,e=.returned (.int .i64 r)/\Hid ((r==0)=sm)/\Below w1.heap.size w1 w')):
    Calls Tryz.prog 94 #[.slice (some ⟨g,0,none⟩) 4 c,.agg #[.int .i64 k,.int .i64 u,.string s,.slice a l pc],.agg #[.int .i64 k',.int .i64 u',.string s',.slice a' l' qc]] w
     (FitPost base g c (if k=6 then some b else if k=5 then o1 else if k=4 then (if k'=4 then o2 else none)else if sm then some b else none) w):=by
 have hbx:∀o1 o2,Below w.heap.size w ((w.alloc o1).alloc o2):=fun o1 o2=>((Below.refl _ _).alloc (Nat.le_refl _) _).alloc (by simp) _
 have HBX:=hide hbx
 clear hbx
 by_cases h6:k=6
 ·rw[if_pos h6]
  subst h6
  go_enter Tryz.func94,Tryz.ntmps94
  go_wp2_with fail
  go_ret
  exact⟨rfl,aZ (HBX.out _ _) _,fun b' e=>by obtain rfl:=Option.some.inj e;exact HH.out.below (HBX.out _ _)⟩
 rw[if_neg h6]
 have e6:(k==6)=false:=by simpa using h6
 by_cases h5:k=5
 ·rw[if_pos h5]
  have HV':=hide (HV.out h5)
  have e5:(k==5)=true:=by simpa using h5
  clear h5 h6 HV
  go_enter Tryz.func94,Tryz.ntmps94
  go_wp2_with fail
  refine(HV'.out _ (HBX.out _ _)).mono ?_
  rintro e w1 h1
  have H1:=hide (FitPost.from (aZ (HBX.out _ _) _) h1)
  obtain⟨rfl,_,_⟩:=h1
  go_wp2_with fail
  go_ret
  exact H1.out
 rw[if_neg h5]
 have e5:(k==5)=false:=by simpa using h5
 by_cases h4:k=4
 ·rw[if_pos h4]
  have e4:(k==4)=true:=by simpa using h4
  clear h5 h6 HV
  by_cases h4':k'=4
  ·rw[if_pos h4']
   have e4':(k'==4)=true:=by simpa using h4'
   clear h4 h4'
   go_enter Tryz.func94,Tryz.ntmps94
   go_wp2_with fail
   refine(HA.out _ (HBX.out _ _)).mono ?_
   rintro e w1 h1
   have H1:=hide (FitPost.from (aZ (HBX.out _ _) _) h1)
   obtain⟨rfl,_,_⟩:=h1
   go_wp2_with fail
   all_goals go_ret
   all_goals exact H1.out
  ·rw[if_neg h4']
   have e4':(k'==4)=false:=by simpa using h4'
   clear h4 h4'
   go_enter Tryz.func94,Tryz.ntmps94
   go_wp2_with fail
   go_ret
   exact⟨rfl,aZ (HBX.out _ _) _,fun b' e=>by cases e⟩
 rw[if_neg h4]
 have e4:(k==4)=false:=by simpa using h4
 clear h4 h5 h6 HV HA
 obtain⟨o3,ho3⟩:∃o3,o3=if sm then some b else none:=⟨_,rfl⟩
 rw[<-ho3]
 have H3:=hide ho3
 clear ho3
 go_enter Tryz.func94,Tryz.ntmps94
 go_wp2_with fail
 refine(HO.out _ (HBX.out _ _)).mono ?_
 rintro e w1 ⟨r,rfl,HR,hb1⟩
 have HB1:Hid (Below w.heap.size w w1):=(HBX.out _ _).trans (hb1.mono (HBX.out _ _).size)
 have H4:=hide H3.out
 rw[Hid,<-HR.out]at H4
 clear hb1 HR H3
 cases h0:r==0
 ·go_wp2_with fail
  go_ret
  have h5:=H4
  rw[h0]at h5
  simp only[Bool.false_eq_true,if_false]at h5
  subst h5
  exact⟨rfl,aZ HB1.out _,fun b' e=>by cases e⟩
 ·go_wp2_with fail
  go_ret
  have h5:=H4
  rw[h0]at h5
  simp only[if_true]at h5
  subst h5
  exact⟨rfl,aZ HB1.out _,fun b' e=>by obtain rfl:=Option.some.inj e;exact HH.out.below HB1.out⟩
theorem Jr (n:Nat) (p:Tm (n+1)) (m:Nat) (t:Tm (m+1)) (b:List An):
    fit (n+1) p (m+1) t b=if p.1.1=6 then some b else if p.1.1=5 then nA b p.1.2.1.toNat ⟨m+1,t⟩else if p.1.1=4 then (if t.1.1=4 then (if p.2.2.length=t.2.2.length then eO (fun x y b=>fit n x m y b) p.2.2 t.2.2 b else none)else none)else if same (n+1) p (m+1) t then some b else none:=by
 simp only[fit]
 by_cases h1:t.1.1=4<;>by_cases h2:p.2.2.length=t.2.2.length<;>simp[h1,h2]
theorem Gl (n:Nat) (p:Tm (n+1)) (h:ak ⟨n+1,p⟩) (h5:p.1.1=5):∃k:Nat,k<4/\p.1.2.1=k:=by
 have hg:=h (aO n p) (by simp[nodes,aO])
 have e:(aO n p).1.1=5:=h5
 have e2:(aO n p).1.2.1=p.1.2.1:=rfl
 simp[good,e,eZ]at hg
 rw[e2]at hg
 exact⟨p.1.2.1.toNat,by omega,by omega⟩
theorem GM (n:Nat):Jv n:=by
 induction n with
 | zero=>intro p m t b base g c B w hp;exact hp.elim
 | succ n ih=>
  intro p m t b base g c B w hp ht rp rt hb hB H
  cases m with
  | zero=>exact ht.elim
  | succ m=>
  have hg1:B<=w.heap.size:=by have:=H.lt;omega
  have hp2:=hp
  have ht2:=ht
  obtain⟨⟨_,_,_,hpl,hpc⟩,hpp⟩:=hp2
  obtain⟨⟨_,_,_,hql,hqc⟩,hqq⟩:=ht2
  unfold maxLen at hpc hqc
  rw[Jr]
  refine Dm p.1.1 p.1.2.1 t.1.1 t.1.2.1 p.1.2.2 t.1.2.2 p.2.1.1 t.2.1.1 p.2.2.length t.2.2.length p.2.1.2 t.2.1.2 base g c b _ _ _ w H ?_ ?_ ?_
  ·intro h5 w1 h1
   obtain⟨k,hk,e⟩:=Gl n p rp h5
   rw[e]
   exact EY b base g c B w1 k hk m t (hb.below (h1.mono hg1)) (ht.below (h1.mono hg1)) rt hB (H.below h1)
  ·intro w1 h1
   refine Bz n m ih p.2.2 t.2.2 p.2.1.1 t.2.1.1 p.2.1.2 t.2.1.2 b base g c B w1 ?_ ?_ (by omega) (by omega) (fun y hy=>aH n p y rp hy) (fun y hy=>aH m t y rt hy) (hb.below (h1.mono hg1)) hB (H.below h1)
   ·rcases hpp with hp|⟨b,o,e,hb,hp⟩
    ·exact Or.inl hp
    ·exact Or.inr ⟨b,o,e,hb,fun i y hy=>⟨(hp i y hy).1.below (h1.mono hg1) hb,(hp i y hy).2.below (h1.mono hg1)⟩⟩
   ·rcases hqq with hp|⟨b,o,e,hb,hp⟩
    ·exact Or.inl hp
    ·exact Or.inr ⟨b,o,e,hb,fun i y hy=>⟨(hp i y hy).1.below (h1.mono hg1) hb,(hp i y hy).2.below (h1.mono hg1)⟩⟩
  ·intro w1 h1
   exact yH ⟨n+1,p⟩ ⟨m+1,t⟩ B w1 (hp.below (h1.mono hg1)) (ht.below (h1.mono hg1)) (Nat.le_trans hg1 h1.size) rp rt
def jZ (n:Nat) (q:List (Tm n)):List An:=q.map fun x=>⟨n,x⟩
theorem kr (n:Nat) (q:List (Tm n)):(jZ n q).length=q.length:=by simp[jZ]
theorem mr {n:Nat} {q:List (Tm n)} {w:World} {pb po:Nat} (hp:∀(i:Nat) (y:Tm n),q[i]? =some y->Held w pb (po+i*4) n y):
    ∀j u,(cK (jZ n q))[j]? =some u->w.cell? ((⟨pb,po,none⟩:Addr).add j)=some u:=by
 intro j u h
 have hl:=fI (jZ n q)
 have hj:j<q.length*4:=by
  rw[kr]at hl
  rw[<-hl]
  exact(List.getElem?_eq_some_iff.1 h).1
 obtain⟨k,i,hi,rfl⟩:∃k i,i<4/\j=k*4+i:=⟨j / 4,j % 4,Nat.mod_lt _ (by decide),by omega⟩
 obtain⟨y,hy⟩:∃y,q[k]? =some y:=⟨q[k]'(by omega),List.getElem?_eq_getElem _⟩
 have e:(cK (jZ n q))[k*4+i]? =(kG (iW ⟨n,y⟩))[i]? :=gI _ k (iW ⟨n,y⟩) (by simp[jZ,hy]) i hi
 rw[e]at h
 have hh:=hp k y hy
 cases n with
 | zero=>exact hh.elim
 | succ n=>
 obtain⟨h0,h1,h2,h3⟩:=hh
 rw[Addr.add_lit,<-Nat.add_assoc]
 have:i=0∨i=1∨i=2∨i=3:=by omega
 rcases this with rfl|rfl|rfl|rfl
 all_goals simp[kG,iW,dF,aO]at h;subst h
 ·exact h0
 ·exact h1
 ·exact h2
 ·exact h3
theorem zN (n:Nat) (q:List (Tm n)) (len pb po pc:Nat) (w:World) (hl:Hid (q.length=len)) (h0:0<len) (h1:len<=1048576) (HP:Hid (∀w1,Below w.heap.size w w1->∀j u,(cK (jZ n q))[j]? =some u->w1.cell? ((⟨pb,po,none⟩:Addr).add j)=some u)):
    Calls Tryz.prog 93 #[.slice (some ⟨pb,po,none⟩) len pc] w fun e w'=>∃g c,e=.returned (.slice (some ⟨g,0,none⟩) len c)/\Hid (Below w.heap.size w w'/\Has w.heap.size g c (jZ n q) w'):=by
 obtain⟨it,hit,htz0,htz1,htz2⟩:=info_parts bP
 have HT:=hide (⟨hit,htz0,htz1,htz2⟩:_/\_/\_/\_)
 clear hit htz0 htz1 htz2
 have hq:∀(w:World) (a:Option Addr) (n c n' c':Nat),(binOp .eql 23 (.slice a n c) (.slice none n' c')).run Tryz.prog w=.ok (.bool a.isNone) w:=fun w a n c n' c'=>Lib.run_eql_slice_nil w _ _ a n c n' c' Tryz.underlying23
 go_enter Tryz.func93,Tryz.ntmps93
 go_wp2_with (at_builtin;refine wpList_append_own _ rfl _ _ 23 rfl w.heap.size 25 it _ 4 56 Tryz.underlying23 HT.out.1 HT.out.2.1 HT.out.2.2.1 HT.out.2.2.2 rfl (by decide) _ _ _ rfl (World.ownsRow_made w #[] 0 (Nat.le_refl _) (Nat.zero_le _) (by simp)) ⟨pb,po,none⟩ len pc (cK (jZ n q)) rfl ?qc1 ?qc2 ?qc3 ?qc4 ?qc5 ?qc6 ?_)
 case qc1=>rw[fI,kr,hl.out]
 case qc2=>exact HP.out _ ((Below.refl _ _).alloc (Nat.le_refl _) _)
 case qc3=>exact qh _
 case qc4=>unfold maxLen;omega
 case qc5=>omega
 case qc6=>simp
 intro v1 w1 hown hgrow hnil
 have HF:Hid (∃g c,v1=.slice (some ⟨g,0,none⟩) len c/\Below w.heap.size w w1/\Has w.heap.size g c (jZ n q) w1):=by
  have hb:Below w.heap.size w w1:=Below.grown ((Below.refl _ _).alloc (Nat.le_refl _) _) hgrow (by simp) (by intro k hk;simp[Value.ownBlock]at hk;omega)
  have ho:=hown
  obtain⟨_,ho⟩:=ho
  rcases ho with⟨_,ho⟩|⟨g,cap,cur,rfl,hg,_⟩
  ·omega
  ·refine⟨g,cap,rfl,hb, ?_⟩
   unfold Has
   rw[kr,hl.out]
   exact hown
 clear hown hgrow hnil
 obtain⟨g,c,rfl,HF2⟩:=HF.out
 go_wp2_with fail
 go_ret
 exact⟨g,c,rfl,HF2⟩
def qA (cp ct:Int) (cl bd:Bool):Int:=if cp=0 then if ct=0 then if cl && bd then 0 else 5 else ct else cp
def wN (err:Int) (o:Option (List An)) (w:World) (e:Ending) (w':World):Prop:=
 ∃a len c r,e=.returned (.tuple #[.slice a len c,.bool r,.int .i64 err])/\Hid (Below w.heap.size w w'/\
  ((¬(err=0/\o.isSome=true)->len=0/\r=false)/\∀b,err=0->o=some b->r=true/\len=4/\b.length=4/\∃w1 l,w.heap.size<=w1.heap.size/\CpRow (top b) (qz b) w1 w' a c l))
def Bx2 (w:World) (v0 v1 v2 v3 u0 u1 u2 u3:Value) (w':World):Prop:=
 Below w.heap.size w w'/\w.heap.size+2<=w'.heap.size/\
 (w'.cell? ⟨w.heap.size,0,none⟩=some v0/\w'.cell? ⟨w.heap.size,1,none⟩=some v1/\w'.cell? ⟨w.heap.size,2,none⟩=some v2/\w'.cell? ⟨w.heap.size,3,none⟩=some v3)/\
 (w'.cell? ⟨w.heap.size+1,0,none⟩=some u0/\w'.cell? ⟨w.heap.size+1,1,none⟩=some u1/\w'.cell? ⟨w.heap.size+1,2,none⟩=some u2/\w'.cell? ⟨w.heap.size+1,3,none⟩=some u3)
theorem Bx2.new (w:World) (v0 v1 v2 v3 u0 u1 u2 u3:Value) (t t':TypeId):Bx2 w v0 v1 v2 v3 u0 u1 u2 u3 ((w.alloc (.cells #[v0,v1,v2,v3] t)).alloc (.cells #[u0,u1,u2,u3] t')):=
 ⟨((Below.refl _ _).alloc (Nat.le_refl _) _).alloc (by simp) _,by simp,⟨by simp[go_sem],by simp[go_sem],by simp[go_sem],by simp[go_sem]⟩,by simp[go_sem],by simp[go_sem],by simp[go_sem],by simp[go_sem]⟩
theorem Bx2.next {w:World} {v0 v1 v2 v3 u0 u1 u2 u3:Value} {w1 w2:World} (h:Bx2 w v0 v1 v2 v3 u0 u1 u2 u3 w1) (hb:Below w1.heap.size w1 w2):Bx2 w v0 v1 v2 v3 u0 u1 u2 u3 w2:=
 ⟨h.1.trans (hb.mono h.1.size),Nat.le_trans h.2.1 hb.size,kK (by have:=h.2.1;omega) hb h.2.2.1,kK (by have:=h.2.1;omega) hb h.2.2.2⟩
theorem AP (w:World) (k u k' u':Int) (s s':ByteArray) (a a':Option Addr) (l pc l' pc':Nat) (qa:Option Addr) (ql qc:Nat) (cp ct:Int) (cl bd:Bool) (o:Option (List An)) (b0:List An)
    (HCP:Hid (∀w1,Below w.heap.size w w1->Calls Tryz.prog 51 #[.agg #[.int .i64 k,.int .i64 u,.string s,.slice a l pc]] w1 fun e w'=>e=.returned (.int .i64 cp)/\Below w1.heap.size w1 w'))
    (HCT:Hid (∀w1,Below w.heap.size w w1->Calls Tryz.prog 51 #[.agg #[.int .i64 k',.int .i64 u',.string s',.slice a' l' pc']] w1 fun e w'=>e=.returned (.int .i64 ct)/\Below w1.heap.size w1 w'))
    (HCL:Hid (∀w1,Below w.heap.size w w1->Calls Tryz.prog 52 #[.agg #[.int .i64 k',.int .i64 u',.string s',.slice a' l' pc']] w1 fun e w'=>e=.returned (.bool cl)/\Below w1.heap.size w1 w'))
    (HBD:Hid (∀w1,Below w.heap.size w w1->Calls Tryz.prog 92 #[.slice qa ql qc] w1 fun e w'=>e=.returned (.bool bd)/\Below w1.heap.size w1 w'))
    (HCN:Hid (bd=true->∀w1,Below w.heap.size w w1->Calls Tryz.prog 93 #[.slice qa ql qc] w1 fun e w'=>∃g c,e=.returned (.slice (some ⟨g,0,none⟩) 4 c)/\Hid (Below w1.heap.size w1 w'/\Has w1.heap.size g c b0 w')))
    (HF:Hid (qA cp ct cl bd=0->∀w1 base g c,Below w.heap.size w w1->w.heap.size<=base->Has base g c b0 w1->Calls Tryz.prog 94 #[.slice (some ⟨g,0,none⟩) 4 c,.agg #[.int .i64 k,.int .i64 u,.string s,.slice a l pc],.agg #[.int .i64 k',.int .i64 u',.string s',.slice a' l' pc']] w1 (FitPost base g c o w1)))
    (HC:Hid (qA cp ct cl bd=0->∀w1 base g c b,o=some b->Below w.heap.size w w1->Has base g c b w1->b.length=4/\Calls Tryz.prog 79 #[.slice (some ⟨g,0,none⟩) 4 c] w1 fun e w'=>∃a' c' l,e=.returned (.slice a' 4 c')/\Hid (CpRow (top b) (qz b) w1 w' a' c' l))):
    Calls Tryz.prog 80 #[.agg #[.int .i64 k,.int .i64 u,.string s,.slice a l pc],.agg #[.int .i64 k',.int .i64 u',.string s',.slice a' l' pc'],.slice qa ql qc] w (wN (qA cp ct cl bd) o w):=by
 obtain⟨err,herr⟩:∃err,err=qA cp ct cl bd:=⟨_,rfl⟩
 rw[<-herr]at HF HC ⊢
 have HE:=hide herr
 clear herr
 go_enter Tryz.func80,Tryz.ntmps80
 go_wp2_with fail
 refine(HCP.out _ (Bx2.new w _ _ _ _ _ _ _ _ _ _).1).mono ?_
 rintro e w1 ⟨rfl,hb1⟩
 have H1:=hide ((Bx2.new w (.int .i64 k) (.int .i64 u) (.string s) (.slice a l pc) (.int .i64 k') (.int .i64 u') (.string s') (.slice a' l' pc') 25 25).next hb1)
 clear hb1 HCP
 by_cases hcp:cp=0
 case neg=>
  have h0:(cp !=0)=true:=by simpa using hcp
  have HE2:Hid (err=cp/\¬err=0):=by have:=HE.out;unfold qA at this;rw[if_neg hcp]at this;exact⟨this,by rw[this];exact hcp⟩
  clear hcp HE
  go_wp2_with fail
  exact bodyPost_ret (v:=.tuple #[.slice none 0 0,.bool false,.int .i64 cp]) (by simp[results,Tryz.results80,go_sem]) rfl ⟨none,0,0,false,by rw[HE2.out.1],H1.out.1,fun _=>⟨rfl,rfl⟩,fun b h=>absurd h HE2.out.2⟩
 have h0:(cp !=0)=false:=by simp[hcp]
 obtain⟨⟨v0,v1,v2,v3⟩,u0,u1,u2,u3⟩:=H1.out.2.2
 go_wp2_with fail
 refine(HCT.out _ H1.out.1).mono ?_
 rintro e w2 ⟨rfl,hb2⟩
 have H2:=hide (H1.out.next hb2)
 clear hb2 HCT H1 v0 v1 v2 v3 u0 u1 u2 u3
 by_cases hct:ct=0
 case neg=>
  have h1:(ct !=0)=true:=by simpa using hct
  have HE2:Hid (err=ct/\¬err=0):=by have:=HE.out;unfold qA at this;rw[if_pos hcp,if_neg hct]at this;exact⟨this,by rw[this];exact hct⟩
  clear hct hcp HE
  go_wp2_with fail
  exact bodyPost_ret (v:=.tuple #[.slice none 0 0,.bool false,.int .i64 ct]) (by simp[results,Tryz.results80,go_sem]) rfl ⟨none,0,0,false,by rw[HE2.out.1],H2.out.1,fun _=>⟨rfl,rfl⟩,fun b h=>absurd h HE2.out.2⟩
 have h1:(ct !=0)=false:=by simp[hct]
 have HE1:Hid (err=if cl && bd then 0 else 5):=by have:=HE.out;unfold qA at this;rw[if_pos hcp,if_pos hct]at this;exact this
 clear hct hcp HE
 obtain⟨⟨v0,v1,v2,v3⟩,u0,u1,u2,u3⟩:=H2.out.2.2
 go_wp2_with fail
 refine(HCL.out _ H2.out.1).mono ?_
 rintro e w3 ⟨rfl,hb3⟩
 have H3:=hide (H2.out.next hb3)
 clear hb3 HCL H2 v0 v1 v2 v3 u0 u1 u2 u3
 cases cl with
 | false=>
  have HE2:Hid (err=5/\¬err=0):=by have:=HE1.out;simp at this;exact⟨this,by rw[this];decide⟩
  clear HE1
  go_wp2_with fail
  exact bodyPost_ret (v:=.tuple #[.slice none 0 0,.bool false,.int .i64 5]) (by simp[results,Tryz.results80,go_sem]) rfl ⟨none,0,0,false,by rw[HE2.out.1],H3.out.1,fun _=>⟨rfl,rfl⟩,fun b h=>absurd h HE2.out.2⟩
 | true=>
 go_wp2_with fail
 refine(HBD.out _ H3.out.1).mono ?_
 rintro e w4 ⟨rfl,hb4⟩
 have H4:=hide (H3.out.next hb4)
 clear hb4 HBD H3
 cases bd with
 | false=>
  have HE2:Hid (err=5/\¬err=0):=by have:=HE1.out;simp at this;exact⟨this,by rw[this];decide⟩
  clear HE1
  go_wp2_with fail
  exact bodyPost_ret (v:=.tuple #[.slice none 0 0,.bool false,.int .i64 5]) (by simp[results,Tryz.results80,go_sem]) rfl ⟨none,0,0,false,by rw[HE2.out.1],H4.out.1,fun _=>⟨rfl,rfl⟩,fun b h=>absurd h HE2.out.2⟩
 | true=>
 have HE2:Hid (err=0):=by have:=HE1.out;simp at this;exact this
 have HF2:=hide (HF.out HE2.out)
 have HC2:=hide (HC.out HE2.out)
 have HCN2:=hide (HCN.out rfl)
 clear HE1 HF HC HCN
 go_wp2_with fail
 refine(HCN2.out _ H4.out.1).mono ?_
 rintro e w5 ⟨g,c,rfl,H5a⟩
 have H5:=hide (H4.out.next H5a.out.1)
 have H5h:Hid (Has w4.heap.size g c b0 w5):=H5a.out.2
 have HW:Hid (w.heap.size<=w4.heap.size):=H4.out.1.size
 obtain⟨⟨v0,v1,v2,v3⟩,u0,u1,u2,u3⟩:=H5.out.2.2
 clear H4 H5a HCN2
 go_wp2_with fail
 refine(HF2.out w5 w4.heap.size g c H5.out.1 HW.out H5h.out).mono ?_
 rintro e w6 h6
 have HB6:Hid (Below w.heap.size w w6):=H5.out.1.trans (iy h6.2.1 (Nat.le_trans HW.out H5h.out.lt.1) H5h.out.lt.2)
 have H6h:=hide h6.2.2
 obtain⟨rfl,_,_⟩:=h6
 clear H5h HF2
 cases o with
 | none=>
  simp only[Option.isSome_none]
  go_wp2_with fail
  exact bodyPost_ret (v:=.tuple #[.slice none 0 0,.bool false,.int .i64 0]) (by simp[results,Tryz.results80,go_sem]) rfl ⟨none,0,0,false,by rw[HE2.out],HB6.out,fun _=>⟨rfl,rfl⟩,fun b _ h=>by cases h⟩
 | some b=>
  simp only[Option.isSome_some]
  have HH:=hide (H6h.out b rfl)
  have HCC:=hide (HC2.out w6 _ g c b rfl HB6.out HH.out)
  clear H6h HC2
  go_wp2_with fail
  refine HCC.out.2.mono ?_
  rintro e w7 ⟨a1,c1,l1,rfl,H7⟩
  have HB7:Hid (Below w.heap.size w w7):=HB6.out.trans (H7.out.1.mono HB6.out.size)
  go_wp2_with fail
  exact bodyPost_ret (v:=.tuple #[.slice a1 4 c1,.bool true,.int .i64 0]) (by simp[results,Tryz.results80,go_sem]) rfl ⟨a1,4,c1,true,by rw[HE2.out],HB7.out,fun h=>absurd ⟨HE2.out,rfl⟩ h,fun b' _ e=>by obtain rfl:=Option.some.inj e;exact⟨rfl,rfl,HCC.out.1,w6,l1,HB6.out.size,H7.out⟩⟩
theorem uR {cp ct:Int} {cl bd:Bool} (h:qA cp ct cl bd=0):cp=0/\ct=0/\cl=true/\bd=true:=by
 unfold qA at h
 split at h
 ·split at h
  ·split at h
   ·rename_i h1 h2 h3
    simp at h3
    exact⟨h1,h2,h3.1,h3.2⟩
   ·cases h
  ·rename_i h1 h2;exact absurd h h2
 ·rename_i h1;exact absurd h h1
theorem zq {n:Nat} {q:List (Tm n)} (h:dz n q=true):q.length=4:=by
 unfold dz at h
 simp at h
 exact h.1
theorem CS {n:Nat} {q:List (Tm n)} (h:dz n q=true):∀y∈jZ n q,ak y:=by
 intro y hy
 simp only[jZ,List.mem_map]at hy
 obtain⟨x,hx,rfl⟩:=hy
 unfold dz at h
 simp only[Bool.and_eq_true,List.all_eq_true]at h
 have h2:=h.2 x hx
 unfold okB at h2
 simp only[Bool.and_eq_true,beq_iff_eq]at h2
 exact nN n x h2.1
theorem IP {B:Nat} {w:World} {n:Nat} {q:List (Tm n)} {a:Option Addr} (h:Lies B w n q a):∀y∈jZ n q,InA B w y:=by
 intro y hy
 simp only[jZ,List.mem_map]at hy
 obtain⟨x,hx,rfl⟩:=hy
 rcases h with h|⟨b,o,_,_,h⟩
 ·rw[h]at hx;cases hx
 ·obtain⟨i,hi⟩:=List.getElem?_of_mem hx
  exact(h i x hi).2
theorem wR {B:Nat} {w:World} {n:Nat} {q:List (Tm n)} {a:Option Addr} (h:Lies B w n q a) (k:dz n q=true):Bnd B w (jZ n q):=
 ⟨by rw[kr];exact zq k,fun y hy=>⟨IP h y hy,CS k y hy⟩⟩
theorem uL (n m o:Nat) (p:Tm n) (t:Tm m) (q:List (Tm o)) (a:Option Addr) (c B:Nat) (w:World) (hp:In B w n p) (ht:In B w m t) (hq:Lies B w o q a) (hB:B<=w.heap.size)
    (hNp:(nodes n p).length<=2097152) (hNt:(nodes m t).length<=2097152) (hNq:∀y∈q,(nodes o y).length<=2097152) (hql:q.length<=9223372036854775807):
    Calls Tryz.prog 80 #[val n p,val m t,.slice a q.length c] w (wN (qA (aP n p) (aP m t) (ic m t) (dz o q)) (fit n p m t (jZ o q)) w):=by
 cases n with
 | zero=>exact hp.elim
 | succ n=>
 cases m with
 | zero=>exact ht.elim
 | succ m=>
 refine AP w p.1.1 p.1.2.1 t.1.1 t.1.2.1 p.1.2.2 t.1.2.2 p.2.1.1 t.2.1.1 p.2.2.length p.2.1.2 t.2.2.length t.2.1.2 a q.length c _ _ _ _ _ (jZ o q) ?_ ?_ ?_ ?_ ?_ ?_ ?_
 ·exact fun w1 h1=>dS (n+1) p B w1 (hp.below (h1.mono hB)) (Nat.le_trans hB h1.size) hNp
 ·exact fun w1 h1=>dS (m+1) t B w1 (ht.below (h1.mono hB)) (Nat.le_trans hB h1.size) hNt
 ·intro w1 h1
  rw[<-bZ]
  exact ku (m+1) t B w1 (ht.below (h1.mono hB)) (Nat.le_trans hB h1.size)
 ·exact fun w1 h1=>zm o q a c B w1 (hq.below (h1.mono hB)) hql hNq (Nat.le_trans hB h1.size)
 ·intro hbd w1 h1
  have h4:=zq hbd
  rcases hq with hq|⟨pb,po,rfl,hb,hq⟩
  ·rw[hq]at h4;simp at h4
  ·have hc:=zN o q 4 pb po c w1 h4 (by decide) (by decide) (fun w2 h2=>mr fun i y hy=>((hq i y hy).1.below (h1.mono hB) hb).below (h2.mono (Nat.le_trans hB h1.size)) hb)
   rw[h4]
   exact hc
 ·intro he w1 base g c1 h1 hba hh
  obtain⟨e1,e2,e3,e4⟩:=uR he
  exact GM (n+1) p (m+1) t (jZ o q) base g c1 B w1 (hp.below (h1.mono hB)) (ht.below (h1.mono hB)) (nN _ _ e1) (nN _ _ e2) ((wR hq e4).below (h1.mono hB)) (Nat.le_trans hB hba) hh
 ·intro he w1 base g c1 b hf h1 hh
  obtain⟨e1,e2,e3,e4⟩:=uR he
  have hb1:=((wR hq e4).fit ht (nN _ _ e2) hf).below (h1.mono hB)
  have hl:=Fw hh (fun y hy=>(hb1.2 y hy).1) (Nat.le_trans hB h1.size)
  have hlen:(qz b).length=4:=by simp[qz,hb1.1]
  have hc:=pX (top b) (kH _) (qz b) (some ⟨g,0,none⟩) c1 w1.heap.size w1 hl (by omega) (CV fun y hy=>⟨(hb1.2 y hy).2,fun h0=>by
   have hin:=(hb1.2 y hy).1
   obtain⟨n',x⟩:=y
   simp only at h0
   subst h0
   exact hin.elim⟩) (Nat.le_refl _)
  rw[hlen]at hc
  exact⟨hb1.1,hc⟩
theorem vR {n:Nat} {x:Tm (n+1)} (h:ai (n+1) x=true):x.1.1≠5/\x.1.1≠6/\∀y∈x.2.2,ai n y=true:=by
 simp only[ai,Bool.and_eq_true,Bool.not_eq_true',List.all_eq_true]at h
 exact⟨by simpa using h.1.1,by simpa using h.1.2,h.2⟩
def Kv:(n:Nat)->Tm n->Bool
 | 0,_=>true
 | n+1,x=> !(x.1.1==5) && x.2.2.all fun y=>Kv n y
def Ar (D:Nat) (l:List (Tm D)) (d:List An):Prop:=∀(i:Nat) (z:An),d[i]? =some z->∃y,l[i]? =some y/\same D y z.1 z.2=true/\ak ⟨D,y⟩
theorem uX {n m:Nat}:(p:List (Tm n))->(q:List (Tm m))->(b c:List An)->eO (fun x y b=>fit n x m y b) p q b=some c->∀(i:Nat) (x:Tm n) (y:Tm m),p[i]? =some x->q[i]? =some y->∃b1 c1,fit n x m y b1=some c1
 | [],_,_,_,_,i,x,y,hx,_=>by simp at hx
 | _::_,[],_,_,_,i,x,y,_,hy=>by simp at hy
 | x::p,y::q,b,c,h,i,x',y',hx,hy=>by
  simp only[eO]at h
  obtain⟨d,h1,h2⟩:=Option.bind_eq_some_iff.1 h
  cases i with
  | zero=>
   simp at hx hy
   subst hx hy
   exact⟨b,d,h1⟩
  | succ i=>exact uX p q d c h2 i x' y' (by simpa using hx) (by simpa using hy)
theorem FE {α β:Type} (f:α->Int) (g:β->Int):(p:List α)->(q:List β)->p.length=q.length->(∀(i:Nat) (x:α) (y:β),p[i]? =some x->q[i]? =some y->f x<=g y)->(p.map f).sum<=(q.map g).sum
 | [],[],_,_=>by simp
 | [],_::_,h,_=>by simp at h
 | _::_,[],h,_=>by simp at h
 | x::p,y::q,h,hf=>by
  have h0:=hf 0 x y (by simp) (by simp)
  have h1:=FE f g p q (by simpa using h) fun i x' y' hx hy=>hf (i+1) x' y' (by simpa using hx) (by simpa using hy)
  simp only[List.map_cons,List.sum_cons]
  omega
theorem Ct {α β:Type} (f:α->Int) (g:β->Int):(p:List α)->(q:List β)->(i j:Int)->i<=j->p.length=q.length->(∀(i:Nat) (x:α) (y:β),p[i]? =some x->q[i]? =some y->f x<=g y)->p.foldl (fun m y=>max m (f y)) i<=q.foldl (fun m y=>max m (g y)) j
 | [],[],_,_,h,_,_=>h
 | [],_::_,_,_,_,h,_=>by simp at h
 | _::_,[],_,_,_,h,_=>by simp at h
 | x::p,y::q,i,j,hij,h,hf=>by
  have h0:=hf 0 x y (by simp) (by simp)
  simp only[List.foldl_cons]
  exact Ct f g p q _ _ (by omega) (by simpa using h) fun i x' y' hx hy=>hf (i+1) x' y' (by simpa using hx) (by simpa using hy)
theorem qJ {α:Type} (f:α->Int) (hf:∀x,0<=f x):(p:List α)->(y:α)->y∈p->f y<=(p.map f).sum/\0<=(p.map f).sum
 | [],y,h=>by cases h
 | x::p,y,h=>by
  have hx:=hf x
  have h0:0<=(p.map f).sum:=by
   cases p with
   | nil=>simp
   | cons z p=>exact(qJ f hf (z::p) z (by simp)).2
  simp only[List.map_cons,List.sum_cons]
  rcases List.mem_cons.1 h with rfl|h
  ·omega
  ·have:=qJ f hf p y h
   omega
theorem Cw {α:Type} (f:α->Int):(p:List α)->(i:Int)->i<=p.foldl (fun m y=>max m (f y)) i
 | [],_=>Int.le_refl _
 | x::p,i=>by
  simp only[List.foldl_cons]
  have:=Cw f p (max i (f x))
  omega
theorem yD {α:Type} (f:α->Int):(p:List α)->(i:Int)->(y:α)->y∈p->f y<=p.foldl (fun m y=>max m (f y)) i
 | [],_,y,h=>by cases h
 | x::p,i,y,h=>by
  simp only[List.foldl_cons]
  rcases List.mem_cons.1 h with rfl|h
  ·have:=Cw f p (max i (f y))
   omega
  ·exact yD f p _ y h
theorem JM:(n:Nat)->(x:Tm n)->(m:Nat)->(t:Tm m)->(b c:List An)->Kv n x=true->fit n x m t b=some c->sz n x<=sz m t/\dW n x<=dW m t
 | 0,_,_,_,_,_,_,h=>by simp[fit]at h
 | _+1,_,0,_,_,_,_,h=>by simp[fit]at h
 | n+1,x,m+1,t,b,c,hv,h=>by
  have s0:=(bD (m+1) t).1
  have d0:=(dY (m+1) t).1
  simp only[Kv,Bool.and_eq_true,List.all_eq_true]at hv
  have h5:¬x.1.1=5:=by simpa using hv.1
  by_cases h4:x.1.1=4
  ·have h6:¬x.1.1=6:=by omega
   simp only[fit,if_neg h6,if_neg h5,if_pos h4]at h
   split at h
   ·rename_i htl
    have each:=uX _ _ b c h
    have key:∀(i:Nat) (y:Tm n) (z:Tm m),x.2.2[i]? =some y->t.2.2[i]? =some z->sz n y<=sz m z/\dW n y<=dW m z:=fun i y z hy hz=>by
     obtain⟨b1,c1,h1⟩:=each i y z hy hz
     exact JM n y m z b1 c1 (hv.2 y (List.mem_of_getElem? hy)) h1
    have k1:=FE (fun y=>1+sz n y) (fun y=>1+sz m y) x.2.2 t.2.2 htl.2 fun i y z hy hz=>by have:=key i y z hy hz;omega
    have k2:=Ct (fun y=>dW n y) (fun y=>dW m y) x.2.2 t.2.2 0 0 (Int.le_refl _) htl.2 fun i y z hy hz=>(key i y z hy hz).2
    simp only[sz,dW,if_pos h4,if_pos htl.1]
    omega
   ·cases h
  ·simp only[sz,dW,if_neg h4]
   simp only[sz,dW]at s0 d0
   exact⟨s0,d0⟩
theorem sH {n:Nat} {x:Tm n}:aP n x=0 ↔ bi n x=true/\dW n x<=12/\sz n x<=200:=by
 rw[<-jf]
 unfold xV
 constructor
 ·intro h
  split at h
  ·rename_i hf
   split at h
   ·cases h
   ·rename_i hd
    exact⟨hf,by omega,by omega⟩
  ·cases h
 ·rintro ⟨h1,h2,h3⟩
  rw[if_pos h1,if_neg (by omega)]
def xZ (a:An):Prop:=aP a.1 a.2=0/\(bE a=6∨ai a.1 a.2=true)
theorem lq:Parts xZ:=by
 intro n x y h hy
 obtain⟨h1,h2⟩:=h
 obtain⟨f1,f2,f3⟩:=sH.1 h1
 have hr:ak ⟨n+1,x⟩:=ax.2 f1
 have gx:=df (aO n x) (hr (aO n x) (by simp[nodes,aO]))
 have h4:x.1.1=4:=by
  by_cases h4:x.1.1=4
  ·exact h4
  ·have:x.2.2=[]:=List.eq_nil_of_length_eq_zero (gx.2.2.2.2 h4)
   rw[this]at hy
   cases hy
 have hs:=qJ (fun y=>1+sz n y) (fun y=>by have:=(bD n y).1;omega) x.2.2 y hy
 have hd:=yD (fun y=>dW n y) x.2.2 0 y hy
 simp only[sz,dW,if_pos h4]at f2 f3
 refine⟨sH.2 ⟨ax.1 (aH n x y hr hy),by simp only at hd ⊢;omega,by simp only at hs ⊢;omega⟩,Or.inr ?_⟩
 rcases h2 with h2|h2
 ·simp only[bE]at h2;omega
 ·exact(vR h2).2.2 y hy
theorem uS {D:Nat} {l:List (Tm D)} {c:List An} (h:∀y∈c,xZ y) (hl:l.length=4) (hc:c.length=4) (ht:Ar D l c):dz D l=true:=by
 unfold dz
 rw[hl]
 simp only[decide_true,Bool.true_and,List.all_eq_true]
 intro y hy
 obtain⟨i,hi⟩:=List.getElem?_of_mem hy
 have hlt:i<c.length:=by have:=(List.getElem?_eq_some_iff.1 hi).1;omega
 obtain⟨y',hy',hs,_⟩:=ht i c[i] (List.getElem?_eq_getElem hlt)
 rw[hi]at hy'
 obtain rfl:=Option.some.inj hy'
 obtain⟨k1,k2⟩:=h c[i] (List.getElem_mem _)
 unfold okB
 rw[bu hs,k1,oJ hs,<-bZ,bI _ _ _ _ hs]
 rcases k2 with k2|k2
 ·have:bE (⟨(c[i]).1,(c[i]).2⟩:An)=6:=k2
  rw[this];rfl
 ·rw[k2];simp
theorem Cc {b:List An} {w1 w':World} {a:Option Addr} {c:Nat} {l:List (Tm (top b))} (h:CpRow (top b) (qz b) w1 w' a c l) (hb:∀y∈b,ak y) (h4:b.length=4):
    Lies w'.heap.size w' (top b) l a/\l.length=4/\Ar (top b) l b/\∀y∈l,ak ⟨top b,y⟩:=by
 obtain⟨k1,k2,k3,k4,k5,k6⟩:=h
 have hu:(qz b).length=4:=by simp[qz,h4]
 have hlies:Lies w'.heap.size w' (top b) l a:=by
  rcases k6 with k6|⟨q,o,e,hq1,hq2,k6⟩
  ·exact Or.inl k6
  ·exact Or.inr ⟨q,o,e,hq2,fun i y hy=>⟨(k6 i y hy).1,(k6 i y hy).2.1⟩⟩
 have ht:Ar (top b) l b:=by
  intro i z hz
  have hi:i<l.length:=by have:=(List.getElem?_eq_some_iff.1 hz).1;omega
  have hzu:(qz b)[i]? =some (lift (top b) z.1 z.2):=by simp[qz,hz]
  have hs:=iY _ _ _ k5 i l[i] _ (List.getElem?_eq_getElem hi) hzu
  have hls:=eH (top b) z.1 (vS b z (List.mem_of_getElem? hz)) z.2 (hb z (List.mem_of_getElem? hz))
  have hs2:=bL _ _ _ _ _ _ hs hls
  exact⟨l[i],List.getElem?_eq_getElem hi,hs2,ax.2 (by rw[iw _ _ _ _ hs2];exact ax.1 (hb z (List.mem_of_getElem? hz)))⟩
 refine⟨hlies,by omega,ht,fun y hy=> ?_⟩
 obtain⟨i,hi⟩:=List.getElem?_of_mem hy
 have hi2:i<b.length:=by have:=(List.getElem?_eq_some_iff.1 hi).1;omega
 obtain⟨y',hy',_,hr⟩:=ht i b[i] (List.getElem?_eq_getElem hi2)
 rw[hi]at hy'
 obtain rfl:=Option.some.inj hy'
 exact hr
def dM:Tm 1:=((6,0,.empty),(none,0),[])
theorem JH (B:Nat) (w:World):In B w 1 dM:=⟨⟨by simp[dM,dZ],by simp[dM,dZ],Nat.zero_le _,by simp[dM],by simp[dM]⟩,Or.inl rfl⟩
theorem J4:bi 1 dM=true:=by
 have:(ByteArray.empty).toList=[]:=by rw[ByteArray.toList_eq];rfl
 simp[bi,dM,good,aO,this]
theorem d1 (x:Tm 1) (h:x.1.1≠4):dW 1 x=0/\sz 1 x=0:=by simp[dW,sz,h]
theorem vg:aP 1 dM=0:=by
 rw[sH]
 have a1:=d1 dM (by simp[dM])
 exact⟨J4,by rw[a1.1];decide,by rw[a1.2];decide⟩
theorem GK:dz 1 (List.replicate 4 dM)=true:=by
 have:okB 1 dM=true:=by
  unfold okB
  rw[vg]
  rfl
 unfold dz
 simp only[List.length_replicate,decide_true,Bool.true_and,List.all_eq_true]
 intro y hy
 rw[List.eq_of_mem_replicate hy]
 exact this
theorem xH (w:World):Calls Tryz.prog 81 #[] w fun e w'=>e=.returned (.slice (some ⟨w.heap.size,0,none⟩) 4 4)/\Hid (CpRow 1 (List.replicate 4 dM) w w' (some ⟨w.heap.size,0,none⟩) 4 (List.replicate 4 dM)):=by
 obtain⟨it,hit,htz0,htz1,htz2⟩:=info_parts bP
 go_enter Tryz.func81,Tryz.ntmps81
 go_wp2_with (at_make;refine wpList_make_full _ rfl _ _ 23 rfl w.heap.size 25 it _ 4 Tryz.underlying23 hit htz0 htz1 _ _ _ _ 4 rfl rfl rfl rfl (by rw[htz2];omega) (by unfold maxLen;omega) (Nat.le_refl _) ?_;intro w0 hown0 hgrow0)
 have HS0:=hide (ni 1 (List.replicate 4 dM) 4 hown0)
 have HB0:Hid (Below w.heap.size w w0):=⟨hgrow0.os,hgrow0.tape,hgrow0.output,hgrow0.size,fun k hk=>hgrow0.block k hk (by simp)⟩
 clear hown0 hgrow0 hit htz0 htz1 htz2
 go_loopw [6] (fun i wr=>∃k:Nat,k<=4/\i=.int .i64 k/\Hid (Below w.heap.size w wr/\CpP 1 (List.replicate 4 dM) 4 w.heap.size k (List.replicate k dM) wr)) (fun i _=>4-(intOf i).toNat)
 case atStart=>exact⟨0,by omega,rfl,HB0.out,HS0.out⟩
 case round=>
  obtain⟨k,hk,rfl,HR⟩:=hrel
  clear HS0 HB0
  by_cases hlt:k<4
  ·have hx:(List.replicate 4 dM)[k]? =some dM:=by rw[List.getElem?_replicate,if_pos hlt]
   have hin:In wr.heap.size wr 1 dM:=JH _ _
   have hoff:Off (fun q=>w.heap.size<q) 1 dM:=by simp[Off,dM]
   have HST:=hide (HR.out.2.step hlt dM hx (Below.refl _ _) dM hin hoff (by simp[same,dM,aj]))
   have HB2:Hid (Below w.heap.size w (fF wr w.heap.size (k*4) (dF 1 dM))):=by
    have h1:=HR.out.1
    exact⟨h1.os,h1.tape,h1.output,Nat.le_trans h1.size (Nat.le_of_eq (aF _ _ _ _).symm),fun q hq=>(au (by omega) _ _ _ _).trans (h1.block q hq)⟩
   obtain⟨z,hz⟩:∃z,((List.replicate k dM).map (fun x=>(⟨1,x⟩:An))++List.replicate (4-k) zA)[k]? =some z:=⟨_,List.getElem?_eq_getElem (by simp;omega)⟩
   obtain⟨c0,c1,c2,c3⟩:=HR.out.2.2.1.cells k z hz
   have hf:=fun j=>HR.out.2.2.1.free j
   have hk1:(0:Int)<=(k:Int):=by omega
   have hk2:(k:Int)<4:=by omega
   have hk3:(k:Int)<=4:=by omega
   clear hx hin hoff hz HR
   go_wp2_with fail
   go_roundw
   case rel=>
    refine⟨k+1,by omega,by go_num,HB2.out, ?_⟩
    have e:List.replicate (k+1) dM=List.replicate k dM++ [dM]:=List.replicate_succ'
    rw[e]
    exact HST.out
   case measure=>simp[intOf];omega
  ·obtain rfl:k=4:=by omega
   have HD:=hide (HR.out.2.done rfl (by omega) HR.out.1 (by unfold maxLen;omega))
   go_wp2_with fail
   go_ret
   exact⟨rfl,HD.out⟩
structure Kee (S:Nat->Prop) (w w':World):Prop where
 os:w'.os=w.os
 tape:w'.tape=w.tape
 output:w'.output=w.output
 size:w.heap.size<=w'.heap.size
 block:∀b,b<w.heap.size->¬S b->w'.heap[b]? =w.heap[b]?
theorem Kee.refl (S:Nat->Prop) (w:World):Kee S w w:=⟨rfl,rfl,rfl,Nat.le_refl _,fun _ _ _=>rfl⟩
theorem Kee.trans {S T:Nat->Prop} {w w1 w2:World} (h:Kee S w w1) (k:Kee T w1 w2) (hT:∀b,b<w.heap.size->T b->S b):Kee S w w2:=
 ⟨k.os.trans h.os,k.tape.trans h.tape,k.output.trans h.output,Nat.le_trans h.size k.size,fun b hb hs=>(k.block b (Nat.lt_of_lt_of_le hb h.size) (fun ht=>hs (hT b hb ht))).trans (h.block b hb hs)⟩
theorem Kee.mono {S T:Nat->Prop} {w w1:World} (h:Kee S w w1) (hT:∀b,b<w.heap.size->S b->T b):Kee T w w1:=⟨h.os,h.tape,h.output,h.size,fun b hb hs=>h.block b hb fun k=>hs (hT b hb k)⟩
theorem aG {w w':World} (h:Below w.heap.size w w') (S:Nat->Prop):Kee S w w':=⟨h.os,h.tape,h.output,h.size,fun b hb _=>h.block b hb⟩
theorem fE {w w':World} {row:Option Nat} (h:w.grownBy w' row):Kee (fun b=>row=some b) w w':=⟨h.os,h.tape,h.output,h.size,fun b hb hs=>h.block b hb fun e=>hs e.symm⟩
theorem aW (w:World) (q o:Nat) (v:Value):Kee (fun b=>b=q) w (w.setCell ⟨q,o,none⟩ v):=
 ⟨rfl,rfl,rfl,by simp[World.setCell],fun b _ hne=>by
  have:q≠b:=fun e=>hne e.symm
  simp[World.setCell,Array.getElem?_modify,this]⟩
theorem Kee.below {S:Nat->Prop} {w w':World} {B:Nat} (h:Kee S w w') (hB:B<=w.heap.size) (hS:∀b,b<B->¬S b):Below B w w':=⟨h.os,h.tape,h.output,h.size,fun b hb=>h.block b (by omega) (hS b hb)⟩
theorem Kee.cell {S:Nat->Prop} {w w':World} (h:Kee S w w') {b:Nat} (o:Nat) (hb:b<w.heap.size) (hS:¬S b):w'.cell? ⟨b,o,none⟩=w.cell? ⟨b,o,none⟩:=by
 simp only[World.cell?,h.block b hb hS]
theorem aL {base:Nat} {e:TypeId} {sz:Nat} {v:Value} {n:Nat} {xs:List Value} {w w':World} {S:Nat->Prop} (h:w.ownsRow base e sz v n xs) (k:Kee S w w') (h1:∀b,v.ownBlock=some b->¬S b):w'.ownsRow base e sz v n xs:=by
 refine⟨h.1, ?_⟩
 rcases h.2 with⟨e,e0⟩|⟨g,cap,cur,e,hg,hh,hr⟩
 ·exact Or.inl ⟨e,e0⟩
 ·exact Or.inr ⟨g,cap,cur,e,hg,(k.block g (Array.getElem?_eq_some_iff.1 hh).1 (h1 g (by rw[e];rfl))).trans hh,hr⟩
theorem Held.kee {S:Nat->Prop} {w w':World} (h:Kee S w w') {b o:Nat} (hb:b<w.heap.size) (hS:¬S b):{n:Nat}->{x:Tm n}->Held w b o n x->Held w' b o n x
 | 0,_,k=>k
 | _+1,_,k=>by
  obtain⟨k0,k1,k2,k3⟩:=k
  exact⟨(h.cell _ hb hS).trans k0,(h.cell _ hb hS).trans k1,(h.cell _ hb hS).trans k2,(h.cell _ hb hS).trans k3⟩
theorem In.kee {S:Nat->Prop} {w w':World} (h:Kee S w w'):{n:Nat}->{x:Tm n}->In w.heap.size w n x->Off (fun b=>¬S b) n x->In w'.heap.size w' n x
 | 0,_,k,_=>k
 | _+1,x,k,o=>by
  obtain⟨k0,k1⟩:=k
  refine⟨k0, ?_⟩
  rcases k1 with k1|⟨b,f,e,hb,k1⟩
  ·exact Or.inl k1
  ·rcases o with o|⟨b',f',e',hb',o⟩
   ·exact Or.inl o
   ·rw[e]at e'
    injection e' with e'
    injection e' with e1 e2
    subst e1 e2
    exact Or.inr ⟨b,f,e,Nat.lt_of_lt_of_le hb h.size,fun i y hy=>⟨(k1 i y hy).1.kee h hb hb',(k1 i y hy).2.kee h (o i y hy)⟩⟩
/-! ### the keys -/
def kl (k:Int×Int):Lit:=.string (keyBytes [.int .i64 k.1,.int .i64 k.2])
theorem dA {w:World} {base:Nat} {e:TypeId} {sz:Nat} {v:Value} {n:Nat} {xs:List Value} (h:w.ownsRow base e sz v n xs) (b:Nat) (hb:v.ownBlock=some b):∃cur,w.heap[b]? =some (.cells cur e (0,0)):=by
 rcases h.2 with⟨rfl,_⟩|⟨g,cap,cur,rfl,_,hh,_⟩
 ·simp[Value.ownBlock]at hb
 ·simp[Value.ownBlock]at hb
  subst hb
  exact⟨cur,hh⟩
variable {base mb n N:Nat} {f:Int×Int->List (Tm N)} {sl:Int×Int->Value} {w:World}
theorem ae {w:World} {g:Nat} {cur:Array Value} {e:TypeId} (h:w.heap[g]? =some (.cells cur e (0,0))) (j:Nat):w.cell? ⟨g,j,none⟩=cur.toList[j]? :=by
 simp[World.cell?,h]
theorem JW (x1:Int) (x2:ByteArray) (a:Option Addr) (len pc:Nat) (s:ByteArray) (k:Nat) (w:World) (hk:k<=8) (h:len≠1+k):
    Calls Tryz.prog 89 #[.agg #[.int .i64 4,.int .i64 x1,.string x2,.slice a len pc],.string s,.int .i64 k] w fun e w'=>e=.returned (.bool false)/\Below w.heap.size w w':=by
 have h1:((len:Int)==1+(k:Int))=false:=by simp;omega
 have e1:IntKind.i64.wrap (1+(k:Int))=1+(k:Int):=by rw[IntKind.wrap];simp[IntKind.bits,IntKind.signed];omega
 go_enter Tryz.func89,Tryz.ntmps89
 go_wp2_with fail
 go_ret
 exact⟨rfl,(Below.refl _ _).alloc (Nat.le_refl _) _⟩
theorem Kh (x1:Int) (x2:ByteArray) (pb po len pc:Nat) (s:ByteArray) (k:Nat) (y0:Int) (y2:ByteArray) (w:World) (hlen:len<=8) (hk:k<=8) (h:len=1+k) (hpb:pb<w.heap.size) (c0:w.cell? ⟨pb,po,none⟩=some (.int .i64 y0)) (c2:w.cell? ⟨pb,po+2,none⟩=some (.string y2)):
    Calls Tryz.prog 89 #[.agg #[.int .i64 4,.int .i64 x1,.string x2,.slice (some ⟨pb,po,none⟩) len pc],.string s,.int .i64 k] w fun e w'=>e=.returned (.bool (y0==2 && y2.toList==s.toList))/\Below w.heap.size w w':=by
 have h1:((len:Int)==1+(k:Int))=true:=by simp;omega
 have e1:IntKind.i64.wrap (1+(k:Int))=1+(k:Int):=by rw[IntKind.wrap];simp[IntKind.bits,IntKind.signed];omega
 have h2:(0:Int)<(len:Int):=by omega
 cases hx:y0==2
 ·go_enter Tryz.func89,Tryz.ntmps89
  go_wp2_with fail
  go_ret
  exact⟨rfl,(Below.refl _ _).alloc (Nat.le_refl _) _⟩
 ·go_enter Tryz.func89,Tryz.ntmps89
  go_wp2_with fail
  go_ret
  exact⟨rfl,(Below.refl _ _).alloc (Nat.le_refl _) _⟩
theorem JP (n:Nat) (p:List (Tm n)) (x1:Int) (x2:ByteArray) (a:Option Addr) (pc B:Nat) (s:ByteArray) (k:Nat) (w:World) (hp:Lies B w n p a) (hB:B<=w.heap.size) (hlen:p.length<=8) (hk:k<=8):
    Calls Tryz.prog 89 #[.agg #[.int .i64 4,.int .i64 x1,.string x2,.slice a p.length pc],.string s,.int .i64 k] w fun e w'=>e=.returned (.bool (nZ n p s k))/\Below w.heap.size w w':=by
 by_cases h:p.length=1+k
 ·rcases hp with hp|⟨b,o,rfl,hb,hp⟩
  ·rw[hp]at h;simp at h;omega
  ·obtain⟨y,hy⟩:∃y,p[0]? =some y:=⟨p[0]'(by omega),List.getElem?_eq_getElem _⟩
   obtain⟨h1,h2⟩:=hp 0 y hy
   cases n with
   | zero=>exact h1.elim
   | succ n=>
    rw[zR h hy]
    obtain⟨c0,c1,c2,c3⟩:=h1
    exact Kh x1 x2 b o p.length pc s k y.1.1 y.1.2.2 w hlen hk h (by omega) (by simpa using c0) (by simpa using c2)
 ·rw[qM h]
  exact JW x1 x2 a p.length pc s k w hk h
end Go.Proofs.YtbknffhilfoakaaGreat
