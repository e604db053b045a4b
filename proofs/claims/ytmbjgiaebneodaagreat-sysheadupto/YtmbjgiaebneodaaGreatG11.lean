/- What is proved here: plain facts and contracts that the claimed theorem stands on. No condition but those that each names. -/
import Derived.Test.YtmbjgiaebneodaaGreatG08
import Derived.Lib.SliceRun
import Derived.Deep.RegionLaw
import Derived.Laws.CopyRow
namespace Go.Proofs.YtmbjgiaebneodaaGreat
open Go.RowKit
set_option maxHeartbeats 2000000
set_option maxRecDepth 100000
theorem AO {w w':World} {g:Nat} (h:w.grownBy w' (some g)):∀b o,b<w.heap.size->b≠g->w'.cell? ⟨b,o,none⟩=w.cell? ⟨b,o,none⟩:=
 fun b o hb hne=>World.cell?_of_block (a:=⟨b,o,none⟩) (h.block b hb (by simpa using hne))
theorem qF {w w':World} {row:Option Nat} (h:w.drew.grownBy w' row):w.grownBy w' row:=⟨h.os,h.tape,h.output,h.size,h.block⟩
theorem I8 (p q:Nat) (a a':Option Addr) (pc qc:Nat) (g c:Nat) (base:Nat) (w:World) (_hpc:p<=9223372036854775807) (_hqc:q<=9223372036854775807) (hl:((p:Int)==(q:Int))=false):
    Calls Tryz.prog 134 #[.slice (some ⟨g,0,none⟩) 4 c,.slice a p pc,.slice a' q qc] w (FitPost base g c none w):=by
 have hl':((p:Int) !=(q:Int))=true:=by simpa using hl
 go_enter Tryz.func134,Tryz.ntmps134
 go_wp2_with fail
 go_ret
 exact⟨rfl,World.grownBy.refl _ _,fun b e=>by cases e⟩
theorem fitAll_nil (a a':Option Addr) (pc qc:Nat) (g c:Nat) (base:Nat) (b:List An) (w:World) (H:Has base g c b w):
    Calls Tryz.prog 134 #[.slice (some ⟨g,0,none⟩) 4 c,.slice a 0 pc,.slice a' 0 qc] w (FitPost base g c (some b) w):=by
 have HH:=hide H
 clear H
 go_enter Tryz.func134,Tryz.ntmps134
 go_wp2_with fail
 go_loop [16] (fun i=>i=.int .i64 0) (fun _=>0)
 case atStart=>rfl
 case round=>
  obtain rfl:=hrel
  go_wp2_with fail
  go_ret
  exact⟨rfl,World.grownBy.refl _ _,fun b' e=>by obtain rfl:=Option.some.inj e;exact HH.out⟩
theorem I7 (n m:Nat) (ih:Pe n) (p:List (Tm n)) (q:List (Tm m)) (len:Nat) (hpl:Hid (p.length=len)) (hql:Hid (q.length=len)) (pb po qb qo pc qc:Nat) (b:List An) (base g c B:Nat) (w:World)
    (hlen:len<=9223372036854775807) (hpb:pb<B) (hqb:qb<B)
    (hp:∀(i:Nat) (y:Tm n),p[i]? =some y->Held w pb (po+i*4) n y/\In B w n y)
    (hq:∀(i:Nat) (y:Tm m),q[i]? =some y->Held w qb (qo+i*4) m y/\In B w m y)
    (hrp:∀y∈p,ai ⟨n,y⟩) (hrq:∀y∈q,ai ⟨m,y⟩) (hb:Hid (Bnd B w b)) (hB:B<=base) (H:Hid (Has base g c b w)):
    Calls Tryz.prog 134 #[.slice (some ⟨g,0,none⟩) 4 c,.slice (some ⟨pb,po,none⟩) len pc,.slice (some ⟨qb,qo,none⟩) len qc] w (FitPost base g c (gz (fun x y b=>fit n x m y b) p q b) w):=by
 have hg1:B<=g:=Nat.le_trans hB H.out.lt.1
 have hg2:g<w.heap.size:=H.out.lt.2
 go_enter Tryz.func134,Tryz.ntmps134
 go_wp2_with fail
 go_loopw [16] (fun i wr=>∃k:Nat,k<=len/\i=.int .i64 k/\Hid (w.grownBy wr (some g)/\∃b',Has base g c b' wr/\Bnd B wr b'/\gz (fun x y b=>fit n x m y b) (p.drop k) (q.drop k) b'=gz (fun x y b=>fit n x m y b) p q b)) (fun i _=>len-(intOf i).toNat)
 case atStart=>exact⟨0,by omega,rfl,World.grownBy.refl _ _,b,H.out,hb.out,rfl⟩
 case round=>
  obtain⟨k,hk,rfl,HR⟩:=hrel
  by_cases hlt:k<len
  ·obtain⟨x,hx⟩:∃x,p[k]? =some x:=⟨p[k]'(by rw[hpl.out];exact hlt),List.getElem?_eq_getElem _⟩
   obtain⟨y,hy⟩:∃y,q[k]? =some y:=⟨q[k]'(by rw[hql.out];exact hlt),List.getElem?_eq_getElem _⟩
   obtain⟨HG,b',HH,HN,HF⟩:Hid (w.grownBy wr (some g))/\∃b',Hid (Has base g c b' wr)/\Hid (Bnd B wr b')/\Hid (gz (fun x y b=>fit n x m y b) (p.drop k) (q.drop k) b'=gz (fun x y b=>fit n x m y b) p q b):=HR.out
   clear HR
   obtain⟨hx1,hx2⟩:=hp k x hx
   obtain⟨hy1,hy2⟩:=hq k y hy
   have HS:=hide (Gm (fun x y b=>fit n x m y b) p q k x y hx hy b')
   have HRX:=hide (hrp x (List.mem_of_getElem? hx))
   have HRY:=hide (hrq y (List.mem_of_getElem? hy))
   have hbw:=mi HG.out hg1 hg2
   replace hx1:=hx1.below hbw hpb
   replace hy1:=hy1.below hbw hqb
   replace hx2:=hx2.below hbw
   replace hy2:=hy2.below hbw
   have hgr:g<wr.heap.size:=Nat.lt_of_lt_of_le hg2 HG.out.size
   have hB':B<=wr.heap.size:=by omega
   clear hp hq hx hy hrp hrq hb H hbw
   cases n with
   | zero=>exact hx1.elim
   | succ n=>
   cases m with
   | zero=>exact hy1.elim
   | succ m=>
   obtain⟨x0,x1,x2,x3⟩:=hx1
   obtain⟨y0,y1,y2,y3⟩:=hy1
   have HC:Hid (∀(w1:World),Below wr.heap.size wr w1->Calls Tryz.prog 123 #[.slice (some ⟨g,0,none⟩) 4 c,.agg #[.int .i64 x.1.1,.int .i64 x.1.2.1,.string x.1.2.2,.slice x.2.1.1 x.2.2.length x.2.1.2],.agg #[.int .i64 y.1.1,.int .i64 y.1.2.1,.string y.1.2.2,.slice y.2.1.1 y.2.2.length y.2.1.2]] w1 (FitPost base g c (fit (n+1) x (m+1) y b') w1)):=
    fun w1 h1=>ih x (m+1) y b' base g c B w1 (hx2.below (h1.mono hB')) (hy2.below (h1.mono hB')) HRX.out HRY.out (HN.out.below (h1.mono hB')) hB (HH.out.below h1)
   have HK:Hid (∀r b2,fit (n+1) x (m+1) y b'=r->r=some b2->Bnd B wr b2):=fun r b2 e1 e2=>HN.out.fit hy2 HRY.out (e1.trans e2)
   clear ih hx2 hy2 HRX HRY HN
   replace HS:Hid (gz (fun x y b=>fit (n+1) x (m+1) y b) (p.drop k) (q.drop k) b'=(fit (n+1) x (m+1) y b').bind (gz (fun x y b=>fit (n+1) x (m+1) y b) (p.drop (k+1)) (q.drop (k+1)))):=HS
   generalize fit (n+1) x (m+1) y b'=r at*
   generalize x.2.2.length=xl at*
   generalize y.2.2.length=yl at*
   have hk1:(0:Int)<=(k:Int):=by omega
   have hk2:(k:Int)<(len:Int):=by omega
   have hpw:pb<wr.heap.size:=by omega
   have hqw:qb<wr.heap.size:=by omega
   have hqw1:qb<wr.heap.size+1:=by omega
   have hqg:qb≠g:=by omega
   have hwg:wr.heap.size≠g:=by omega
   have HCD:=hide (HC.out (wr.alloc (.cells #[.int .i64 x.1.1,.int .i64 x.1.2.1,.string x.1.2.2,.slice x.2.1.1 xl x.2.1.2] 30)).drew (((Below.refl _ _).alloc (Nat.le_refl _) _).drew))
   clear HC
   go_wp2_with fail
   go_region_held3 (fun w'=>w'.cell? ⟨wr.heap.size,0,none⟩=some (.int .i64 x.1.1)/\w'.cell? ⟨wr.heap.size,1,none⟩=some (.int .i64 x.1.2.1)/\w'.cell? ⟨wr.heap.size,2,none⟩=some (.string x.1.2.2)/\w'.cell? ⟨wr.heap.size,3,none⟩=some (.slice x.2.1.1 xl x.2.1.2)
       /\w'.cell? ⟨qb,qo+k*4,none⟩=some (.int .i64 y.1.1)/\w'.cell? ⟨qb,qo+k*4+1,none⟩=some (.int .i64 y.1.2.1)/\w'.cell? ⟨qb,qo+k*4+2,none⟩=some (.string y.1.2.2)/\w'.cell? ⟨qb,qo+k*4+3,none⟩=some (.slice y.2.1.1 yl y.2.1.2))
    (go_keep) ((go_at_call 123;refine HCD.out.mono ?_;rintro e w1 ⟨rfl,hgr1,hhas1⟩;have hcc:=AO (qF hgr1);have HG1:=hide (qF hgr1);have HH1:=hide hhas1;clear hgr1 hhas1))
   have HG2:Hid (w.grownBy w1 (some g)):=jW HG.out (jW (World.grownBy_alloc wr _ _) HG1.out)
   clear hcc
   cases r with
   | some b2=>
    have HN2:Hid (Bnd B w1 b2):=(HK.out _ b2 rfl rfl).below ((((Below.refl _ _).alloc (Nat.le_refl _) _).mono hB').trans (mi HG1.out hg1 (by simp;omega)))
    clear HK
    simp only[Option.isSome_some]
    go_wp2_with fail
    go_roundw
    case rel=>exact⟨k+1,by omega,by go_num,HG2.out,b2,HH1.out b2 rfl,HN2.out,by rw[<-HF.out,HS.out];rfl⟩
    case measure=>simp[intOf];omega
   | none=>
    clear HK
    simp only[Option.isSome_none]
    go_wp2_with fail
    go_ret
    have ho:gz (fun x y b=>fit (n+1) x (m+1) y b) p q b=none:=by rw[<-HF.out,HS.out];rfl
    rw[ho]
    exact⟨rfl,HG2.out,fun b' e=>by cases e⟩
  ·obtain⟨HG,b',HH,HN,HF⟩:Hid (w.grownBy wr (some g))/\∃b',Hid (Has base g c b' wr)/\Hid (Bnd B wr b')/\Hid (gz (fun x y b=>fit n x m y b) (p.drop k) (q.drop k) b'=gz (fun x y b=>fit n x m y b) p q b):=HR.out
   clear HR
   go_wp2_with fail
   go_ret
   have ho:gz (fun x y b=>fit n x m y b) p q b=some b':=by rw[<-HF.out,List.drop_eq_nil_of_le (by rw[hpl.out];omega)];rfl
   rw[ho]
   exact⟨rfl,HG.out,fun b2 e=>by obtain rfl:=Option.some.inj e;exact HH.out⟩
theorem Dz (n m:Nat) (ih:Pe n) (p:List (Tm n)) (q:List (Tm m)) (a a':Option Addr) (pc qc:Nat) (b:List An) (base g c B:Nat) (w:World)
    (hp:p=[]∨∃b o,a=some ⟨b,o,none⟩/\b<B/\∀(i:Nat) (y:Tm n),p[i]? =some y->Held w b (o+i*4) n y/\In B w n y)
    (hq:q=[]∨∃b o,a'=some ⟨b,o,none⟩/\b<B/\∀(i:Nat) (y:Tm m),q[i]? =some y->Held w b (o+i*4) m y/\In B w m y)
    (hpl:p.length<=9223372036854775807) (hql:q.length<=9223372036854775807) (hrp:∀y∈p,ai ⟨n,y⟩) (hrq:∀y∈q,ai ⟨m,y⟩) (hb:Bnd B w b) (hB:B<=base) (H:Has base g c b w):
    Calls Tryz.prog 134 #[.slice (some ⟨g,0,none⟩) 4 c,.slice a p.length pc,.slice a' q.length qc] w (FitPost base g c (if p.length=q.length then gz (fun x y b=>fit n x m y b) p q b else none) w):=by
 by_cases hl:p.length=q.length
 ·rw[if_pos hl]
  rcases hp with hp|⟨pb,po,rfl,hpb,hp⟩
  ·subst hp
   have hq0:q=[]:=List.eq_nil_of_length_eq_zero hl.symm
   subst hq0
   exact fitAll_nil a a' pc qc g c base b w H
  ·rcases hq with hq|⟨qb,qo,rfl,hqb,hq⟩
   ·subst hq
    have hp0:p=[]:=List.eq_nil_of_length_eq_zero hl
    subst hp0
    exact fitAll_nil _ a' pc qc g c base b w H
   ·have h:=I7 n m ih p q p.length rfl hl.symm pb po qb qo pc qc b base g c B w (by omega) hpb hqb hp hq hrp hrq hb hB H
    rw[<-hl]
    exact h
 ·rw[if_neg hl]
  exact I8 p.length q.length a a' pc qc g c base w hpl hql (by simp;omega)
theorem FitPost.from {base g c:Nat} {o:Option (List An)} {w w1:World} (h:w.grownBy w1 (some g)) {e:Ending} {w2:World} (k:FitPost base g c o w1 e w2):FitPost base g c o w e w2:=
 ⟨k.1,jW h k.2.1,k.2.2⟩
theorem Ia (k u k' u':Int) (s s':ByteArray) (a a':Option Addr) (l l' pc qc:Nat) (base g c:Nat) (b:List An) (o1 o2:Option (List An)) (sm:Bool) (w:World) (HH:Hid (Has base g c b w))
    (HV:Hid (k=5->∀w1,Below w.heap.size w w1->Calls Tryz.prog 133 #[.slice (some ⟨g,0,none⟩) 4 c,.int .i64 u,.agg #[.int .i64 k',.int .i64 u',.string s',.slice a' l' qc]] w1 (FitPost base g c o1 w1)))
    (HA:Hid (∀w1,Below w.heap.size w w1->Calls Tryz.prog 134 #[.slice (some ⟨g,0,none⟩) 4 c,.slice a l pc,.slice a' l' qc] w1 (FitPost base g c o2 w1)))
    (HO:Hid (∀w1,Below w.heap.size w w1->Calls Tryz.prog 135 #[.agg #[.int .i64 k,.int .i64 u,.string s,.slice a l pc],.agg #[.int .i64 k',.int .i64 u',.string s',.slice a' l' qc]] w1 fun e w'=>∃r,e=.returned (.int .i64 r)/\Hid ((r==0)=sm)/\Below w1.heap.size w1 w')):
    Calls Tryz.prog 123 #[.slice (some ⟨g,0,none⟩) 4 c,.agg #[.int .i64 k,.int .i64 u,.string s,.slice a l pc],.agg #[.int .i64 k',.int .i64 u',.string s',.slice a' l' qc]] w
     (FitPost base g c (if k=6 then some b else if k=5 then o1 else if k=4 then (if k'=4 then o2 else none)else if sm then some b else none) w):=by
 have hbx:∀o1 o2,Below w.heap.size w ((w.alloc o1).alloc o2):=fun o1 o2=>((Below.refl _ _).alloc (Nat.le_refl _) _).alloc (by simp) _
 have HBX:=hide hbx
 clear hbx
 by_cases h6:k=6
 ·rw[if_pos h6]
  subst h6
  go_enter Tryz.func123,Tryz.ntmps123
  go_wp2_with fail
  go_ret
  exact⟨rfl,bB (HBX.out _ _) _,fun b' e=>by obtain rfl:=Option.some.inj e;exact HH.out.below (HBX.out _ _)⟩
 rw[if_neg h6]
 have e6:(k==6)=false:=by simpa using h6
 by_cases h5:k=5
 ·rw[if_pos h5]
  have HV':=hide (HV.out h5)
  have e5:(k==5)=true:=by simpa using h5
  clear h5 h6 HV
  go_enter Tryz.func123,Tryz.ntmps123
  go_wp2_with fail
  refine(HV'.out _ (HBX.out _ _)).mono ?_
  rintro e w1 h1
  have H1:=hide (FitPost.from (bB (HBX.out _ _) _) h1)
  obtain⟨rfl,_,_⟩:=h1
  go_wp2_with fail
  go_ret
  exact H1.out
 rw[if_neg h5]
 have e5:(k==5)=false:=by simpa using h5
 by_cases h4:k=4
 ·rw[if_pos h4]
  have e4:(k==4)=true:=by simpa using h4
  clear h5 h6 HV
  by_cases h4':k'=4
  ·rw[if_pos h4']
   have e4':(k'==4)=true:=by simpa using h4'
   clear h4 h4'
   go_enter Tryz.func123,Tryz.ntmps123
   go_wp2_with fail
   refine(HA.out _ (HBX.out _ _)).mono ?_
   rintro e w1 h1
   have H1:=hide (FitPost.from (bB (HBX.out _ _) _) h1)
   obtain⟨rfl,_,_⟩:=h1
   go_wp2_with fail
   all_goals go_ret
   all_goals exact H1.out
  ·rw[if_neg h4']
   have e4':(k'==4)=false:=by simpa using h4'
   clear h4 h4'
   go_enter Tryz.func123,Tryz.ntmps123
   go_wp2_with fail
   go_ret
   exact⟨rfl,bB (HBX.out _ _) _,fun b' e=>by cases e⟩
 rw[if_neg h4]
 have e4:(k==4)=false:=by simpa using h4
 clear h4 h5 h6 HV HA
 obtain⟨o3,ho3⟩:∃o3,o3=if sm then some b else none:=⟨_,rfl⟩
 rw[<-ho3]
 have H3:=hide ho3
 clear ho3
 go_enter Tryz.func123,Tryz.ntmps123
 go_wp2_with fail
 refine(HO.out _ (HBX.out _ _)).mono ?_
 rintro e w1 ⟨r,rfl,HR,hb1⟩
 have HB1:Hid (Below w.heap.size w w1):=(HBX.out _ _).trans (hb1.mono (HBX.out _ _).size)
 have H4:=hide H3.out
 rw[Hid,<-HR.out]at H4
 clear hb1 HR H3
 cases h0:r==0
 ·go_wp2_with fail
  go_ret
  have h5:=H4
  rw[h0]at h5
  simp only[Bool.false_eq_true,if_false]at h5
  subst h5
  exact⟨rfl,bB HB1.out _,fun b' e=>by cases e⟩
 ·go_wp2_with fail
  go_ret
  have h5:=H4
  rw[h0]at h5
  simp only[if_true]at h5
  subst h5
  exact⟨rfl,bB HB1.out _,fun b' e=>by obtain rfl:=Option.some.inj e;exact HH.out.below HB1.out⟩
theorem OL (n:Nat) (p:Tm (n+1)) (m:Nat) (t:Tm (m+1)) (b:List An):
    fit (n+1) p (m+1) t b=if p.1.1=6 then some b else if p.1.1=5 then wC b p.1.2.1.toNat ⟨m+1,t⟩else if p.1.1=4 then (if t.1.1=4 then (if p.2.2.length=t.2.2.length then gz (fun x y b=>fit n x m y b) p.2.2 t.2.2 b else none)else none)else if same (n+1) p (m+1) t then some b else none:=by
 simp only[fit]
 by_cases h1:t.1.1=4<;>by_cases h2:p.2.2.length=t.2.2.length<;>simp[h1,h2]
theorem O9 (n:Nat) (p:Tm (n+1)) (h:ai ⟨n+1,p⟩) (h5:p.1.1=5):∃k:Nat,k<4/\p.1.2.1=k:=by
 have hg:=h (aL n p) (by simp[nodes,aL])
 have e:(aL n p).1.1=5:=h5
 have e2:(aL n p).1.2.1=p.1.2.1:=rfl
 simp[good,e,kr]at hg
 rw[e2]at hg
 exact⟨p.1.2.1.toNat,by omega,by omega⟩
theorem LH (n:Nat):Pe n:=by
 induction n with
 | zero=>intro p m t b base g c B w hp;exact hp.elim
 | succ n ih=>
  intro p m t b base g c B w hp ht rp rt hb hB H
  cases m with
  | zero=>exact ht.elim
  | succ m=>
  have hg1:B<=w.heap.size:=by have:=H.lt;omega
  have hp2:=hp
  have ht2:=ht
  obtain⟨⟨_,_,_,hpl,hpc⟩,hpp⟩:=hp2
  obtain⟨⟨_,_,_,hql,hqc⟩,hqq⟩:=ht2
  unfold maxLen at hpc hqc
  rw[OL]
  refine Ia p.1.1 p.1.2.1 t.1.1 t.1.2.1 p.1.2.2 t.1.2.2 p.2.1.1 t.2.1.1 p.2.2.length t.2.2.length p.2.1.2 t.2.1.2 base g c b _ _ _ w H ?_ ?_ ?_
  ·intro h5 w1 h1
   obtain⟨k,hk,e⟩:=O9 n p rp h5
   rw[e]
   exact KX b base g c B w1 k hk m t (hb.below (h1.mono hg1)) (ht.below (h1.mono hg1)) rt hB (H.below h1)
  ·intro w1 h1
   refine Dz n m ih p.2.2 t.2.2 p.2.1.1 t.2.1.1 p.2.1.2 t.2.1.2 b base g c B w1 ?_ ?_ (by omega) (by omega) (fun y hy=>aH n p y rp hy) (fun y hy=>aH m t y rt hy) (hb.below (h1.mono hg1)) hB (H.below h1)
   ·rcases hpp with hp|⟨b,o,e,hb,hp⟩
    ·exact Or.inl hp
    ·exact Or.inr ⟨b,o,e,hb,fun i y hy=>⟨(hp i y hy).1.below (h1.mono hg1) hb,(hp i y hy).2.below (h1.mono hg1)⟩⟩
   ·rcases hqq with hp|⟨b,o,e,hb,hp⟩
    ·exact Or.inl hp
    ·exact Or.inr ⟨b,o,e,hb,fun i y hy=>⟨(hp i y hy).1.below (h1.mono hg1) hb,(hp i y hy).2.below (h1.mono hg1)⟩⟩
  ·intro w1 h1
   exact AC ⟨n+1,p⟩ ⟨m+1,t⟩ B w1 (hp.below (h1.mono hg1)) (ht.below (h1.mono hg1)) (Nat.le_trans hg1 h1.size) rp rt
def lT (n:Nat) (q:List (Tm n)):List An:=q.map fun x=>⟨n,x⟩
theorem kZ (n:Nat) (q:List (Tm n)):(lT n q).length=q.length:=by simp[lT]
theorem Fp {n:Nat} {q:List (Tm n)} {w:World} {pb po:Nat} (hp:∀(i:Nat) (y:Tm n),q[i]? =some y->Held w pb (po+i*4) n y):
    ∀j u,(eH (lT n q))[j]? =some u->w.cell? ((⟨pb,po,none⟩:Addr).add j)=some u:=by
 intro j u h
 have hl:=jB (lT n q)
 have hj:j<q.length*4:=by
  rw[kZ]at hl
  rw[<-hl]
  exact(List.getElem?_eq_some_iff.1 h).1
 obtain⟨k,i,hi,rfl⟩:∃k i,i<4/\j=k*4+i:=⟨j / 4,j % 4,Nat.mod_lt _ (by decide),by omega⟩
 obtain⟨y,hy⟩:∃y,q[k]? =some y:=⟨q[k]'(by omega),List.getElem?_eq_getElem _⟩
 have e:(eH (lT n q))[k*4+i]? =(yn (tu ⟨n,y⟩))[i]? :=gT _ k (tu ⟨n,y⟩) (by simp[lT,hy]) i hi
 rw[e]at h
 have hh:=hp k y hy
 cases n with
 | zero=>exact hh.elim
 | succ n=>
 obtain⟨h0,h1,h2,h3⟩:=hh
 rw[Addr.add_lit,<-Nat.add_assoc]
 have:i=0∨i=1∨i=2∨i=3:=by omega
 rcases this with rfl|rfl|rfl|rfl
 all_goals simp[yn,tu,gZ,aL]at h;subst h
 ·exact h0
 ·exact h1
 ·exact h2
 ·exact h3
theorem DD (n:Nat) (q:List (Tm n)) (len pb po pc:Nat) (w:World) (hl:Hid (q.length=len)) (h0:0<len) (h1:len<=1048576) (HP:Hid (∀w1,Below w.heap.size w w1->∀j u,(eH (lT n q))[j]? =some u->w1.cell? ((⟨pb,po,none⟩:Addr).add j)=some u)):
    Calls Tryz.prog 122 #[.slice (some ⟨pb,po,none⟩) len pc] w fun e w'=>∃g c,e=.returned (.slice (some ⟨g,0,none⟩) len c)/\Hid (Below w.heap.size w w'/\Has w.heap.size g c (lT n q) w'):=by
 obtain⟨it,hit,htz0,htz1,htz2⟩:=info_parts gu
 have HT:=hide (⟨hit,htz0,htz1,htz2⟩:_/\_/\_/\_)
 clear hit htz0 htz1 htz2
 have hq:∀(w:World) (a:Option Addr) (n c n' c':Nat),(binOp .eql 28 (.slice a n c) (.slice none n' c')).run Tryz.prog w=.ok (.bool a.isNone) w:=fun w a n c n' c'=>Lib.run_eql_slice_nil w _ _ a n c n' c' Tryz.underlying28
 go_enter Tryz.func122,Tryz.ntmps122
 go_wp2_with (at_builtin;refine wpList_append_own _ rfl _ _ 28 rfl w.heap.size 30 it _ 4 56 Tryz.underlying28 HT.out.1 HT.out.2.1 HT.out.2.2.1 HT.out.2.2.2 rfl (by decide) _ _ _ rfl (World.ownsRow_made w #[] 0 (Nat.le_refl _) (Nat.zero_le _) (by simp)) ⟨pb,po,none⟩ len pc (eH (lT n q)) rfl ?qc1 ?qc2 ?qc3 ?qc4 ?qc5 ?qc6 ?_)
 case qc1=>rw[jB,kZ,hl.out]
 case qc2=>exact HP.out _ ((Below.refl _ _).alloc (Nat.le_refl _) _)
 case qc3=>exact Cn _
 case qc4=>unfold maxLen;omega
 case qc5=>omega
 case qc6=>simp
 intro v1 w1 hown hgrow hnil
 have HF:Hid (∃g c,v1=.slice (some ⟨g,0,none⟩) len c/\Below w.heap.size w w1/\Has w.heap.size g c (lT n q) w1):=by
  have hb:Below w.heap.size w w1:=Below.grown ((Below.refl _ _).alloc (Nat.le_refl _) _) hgrow (by simp) (by intro k hk;simp[Value.ownBlock]at hk;omega)
  have ho:=hown
  obtain⟨_,ho⟩:=ho
  rcases ho with⟨_,ho⟩|⟨g,cap,cur,rfl,hg,_⟩
  ·omega
  ·refine⟨g,cap,rfl,hb, ?_⟩
   unfold Has
   rw[kZ,hl.out]
   exact hown
 clear hown hgrow hnil
 obtain⟨g,c,rfl,HF2⟩:=HF.out
 go_wp2_with fail
 go_ret
 exact⟨g,c,rfl,HF2⟩
def tY (cp ct:Int) (cl bd:Bool):Int:=if cp=0 then if ct=0 then if cl && bd then 0 else 5 else ct else cp
def Ag (err:Int) (o:Option (List An)) (w:World) (e:Ending) (w':World):Prop:=
 ∃a len c r,e=.returned (.tuple #[.slice a len c,.bool r,.int .i64 err])/\Hid (Below w.heap.size w w'/\
  ((¬(err=0/\o.isSome=true)->len=0/\r=false)/\∀b,err=0->o=some b->r=true/\len=4/\b.length=4/\∃w1 l,w.heap.size<=w1.heap.size/\CpRow (top b) (Ba b) w1 w' a c l))
def Bx2 (w:World) (v0 v1 v2 v3 u0 u1 u2 u3:Value) (w':World):Prop:=
 Below w.heap.size w w'/\w.heap.size+2<=w'.heap.size/\
 (w'.cell? ⟨w.heap.size,0,none⟩=some v0/\w'.cell? ⟨w.heap.size,1,none⟩=some v1/\w'.cell? ⟨w.heap.size,2,none⟩=some v2/\w'.cell? ⟨w.heap.size,3,none⟩=some v3)/\
 (w'.cell? ⟨w.heap.size+1,0,none⟩=some u0/\w'.cell? ⟨w.heap.size+1,1,none⟩=some u1/\w'.cell? ⟨w.heap.size+1,2,none⟩=some u2/\w'.cell? ⟨w.heap.size+1,3,none⟩=some u3)
theorem Bx2.new (w:World) (v0 v1 v2 v3 u0 u1 u2 u3:Value) (t t':TypeId):Bx2 w v0 v1 v2 v3 u0 u1 u2 u3 ((w.alloc (.cells #[v0,v1,v2,v3] t)).alloc (.cells #[u0,u1,u2,u3] t')):=
 ⟨((Below.refl _ _).alloc (Nat.le_refl _) _).alloc (by simp) _,by simp,⟨by simp[go_sem],by simp[go_sem],by simp[go_sem],by simp[go_sem]⟩,by simp[go_sem],by simp[go_sem],by simp[go_sem],by simp[go_sem]⟩
theorem Bx2.next {w:World} {v0 v1 v2 v3 u0 u1 u2 u3:Value} {w1 w2:World} (h:Bx2 w v0 v1 v2 v3 u0 u1 u2 u3 w1) (hb:Below w1.heap.size w1 w2):Bx2 w v0 v1 v2 v3 u0 u1 u2 u3 w2:=
 ⟨h.1.trans (hb.mono h.1.size),Nat.le_trans h.2.1 hb.size,lU (by have:=h.2.1;omega) hb h.2.2.1,lU (by have:=h.2.1;omega) hb h.2.2.2⟩
theorem Eb (w:World) (k u k' u':Int) (s s':ByteArray) (a a':Option Addr) (l pc l' pc':Nat) (qa:Option Addr) (ql qc:Nat) (cp ct:Int) (cl bd:Bool) (o:Option (List An)) (b0:List An)
    (HCP:Hid (∀w1,Below w.heap.size w w1->Calls Tryz.prog 42 #[.agg #[.int .i64 k,.int .i64 u,.string s,.slice a l pc]] w1 fun e w'=>e=.returned (.int .i64 cp)/\Below w1.heap.size w1 w'))
    (HCT:Hid (∀w1,Below w.heap.size w w1->Calls Tryz.prog 42 #[.agg #[.int .i64 k',.int .i64 u',.string s',.slice a' l' pc']] w1 fun e w'=>e=.returned (.int .i64 ct)/\Below w1.heap.size w1 w'))
    (HCL:Hid (∀w1,Below w.heap.size w w1->Calls Tryz.prog 43 #[.agg #[.int .i64 k',.int .i64 u',.string s',.slice a' l' pc']] w1 fun e w'=>e=.returned (.bool cl)/\Below w1.heap.size w1 w'))
    (HBD:Hid (∀w1,Below w.heap.size w w1->Calls Tryz.prog 121 #[.slice qa ql qc] w1 fun e w'=>e=.returned (.bool bd)/\Below w1.heap.size w1 w'))
    (HCN:Hid (bd=true->∀w1,Below w.heap.size w w1->Calls Tryz.prog 122 #[.slice qa ql qc] w1 fun e w'=>∃g c,e=.returned (.slice (some ⟨g,0,none⟩) 4 c)/\Hid (Below w1.heap.size w1 w'/\Has w1.heap.size g c b0 w')))
    (HF:Hid (tY cp ct cl bd=0->∀w1 base g c,Below w.heap.size w w1->w.heap.size<=base->Has base g c b0 w1->Calls Tryz.prog 123 #[.slice (some ⟨g,0,none⟩) 4 c,.agg #[.int .i64 k,.int .i64 u,.string s,.slice a l pc],.agg #[.int .i64 k',.int .i64 u',.string s',.slice a' l' pc']] w1 (FitPost base g c o w1)))
    (HC:Hid (tY cp ct cl bd=0->∀w1 base g c b,o=some b->Below w.heap.size w w1->Has base g c b w1->b.length=4/\Calls Tryz.prog 68 #[.slice (some ⟨g,0,none⟩) 4 c] w1 fun e w'=>∃a' c' l,e=.returned (.slice a' 4 c')/\Hid (CpRow (top b) (Ba b) w1 w' a' c' l))):
    Calls Tryz.prog 100 #[.agg #[.int .i64 k,.int .i64 u,.string s,.slice a l pc],.agg #[.int .i64 k',.int .i64 u',.string s',.slice a' l' pc'],.slice qa ql qc] w (Ag (tY cp ct cl bd) o w):=by
 obtain⟨err,herr⟩:∃err,err=tY cp ct cl bd:=⟨_,rfl⟩
 rw[<-herr]at HF HC ⊢
 have HE:=hide herr
 clear herr
 go_enter Tryz.func100,Tryz.ntmps100
 go_wp2_with fail
 refine(HCP.out _ (Bx2.new w _ _ _ _ _ _ _ _ _ _).1).mono ?_
 rintro e w1 ⟨rfl,hb1⟩
 have H1:=hide ((Bx2.new w (.int .i64 k) (.int .i64 u) (.string s) (.slice a l pc) (.int .i64 k') (.int .i64 u') (.string s') (.slice a' l' pc') 30 30).next hb1)
 clear hb1 HCP
 by_cases hcp:cp=0
 case neg=>
  have h0:(cp !=0)=true:=by simpa using hcp
  have HE2:Hid (err=cp/\¬err=0):=by have:=HE.out;unfold tY at this;rw[if_neg hcp]at this;exact⟨this,by rw[this];exact hcp⟩
  clear hcp HE
  go_wp2_with fail
  exact bodyPost_ret (v:=.tuple #[.slice none 0 0,.bool false,.int .i64 cp]) (by simp[results,Tryz.results100,go_sem]) rfl ⟨none,0,0,false,by rw[HE2.out.1],H1.out.1,fun _=>⟨rfl,rfl⟩,fun b h=>absurd h HE2.out.2⟩
 have h0:(cp !=0)=false:=by simp[hcp]
 obtain⟨⟨v0,v1,v2,v3⟩,u0,u1,u2,u3⟩:=H1.out.2.2
 go_wp2_with fail
 refine(HCT.out _ H1.out.1).mono ?_
 rintro e w2 ⟨rfl,hb2⟩
 have H2:=hide (H1.out.next hb2)
 clear hb2 HCT H1 v0 v1 v2 v3 u0 u1 u2 u3
 by_cases hct:ct=0
 case neg=>
  have h1:(ct !=0)=true:=by simpa using hct
  have HE2:Hid (err=ct/\¬err=0):=by have:=HE.out;unfold tY at this;rw[if_pos hcp,if_neg hct]at this;exact⟨this,by rw[this];exact hct⟩
  clear hct hcp HE
  go_wp2_with fail
  exact bodyPost_ret (v:=.tuple #[.slice none 0 0,.bool false,.int .i64 ct]) (by simp[results,Tryz.results100,go_sem]) rfl ⟨none,0,0,false,by rw[HE2.out.1],H2.out.1,fun _=>⟨rfl,rfl⟩,fun b h=>absurd h HE2.out.2⟩
 have h1:(ct !=0)=false:=by simp[hct]
 have HE1:Hid (err=if cl && bd then 0 else 5):=by have:=HE.out;unfold tY at this;rw[if_pos hcp,if_pos hct]at this;exact this
 clear hct hcp HE
 obtain⟨⟨v0,v1,v2,v3⟩,u0,u1,u2,u3⟩:=H2.out.2.2
 go_wp2_with fail
 refine(HCL.out _ H2.out.1).mono ?_
 rintro e w3 ⟨rfl,hb3⟩
 have H3:=hide (H2.out.next hb3)
 clear hb3 HCL H2 v0 v1 v2 v3 u0 u1 u2 u3
 cases cl with
 | false=>
  have HE2:Hid (err=5/\¬err=0):=by have:=HE1.out;simp at this;exact⟨this,by rw[this];decide⟩
  clear HE1
  go_wp2_with fail
  exact bodyPost_ret (v:=.tuple #[.slice none 0 0,.bool false,.int .i64 5]) (by simp[results,Tryz.results100,go_sem]) rfl ⟨none,0,0,false,by rw[HE2.out.1],H3.out.1,fun _=>⟨rfl,rfl⟩,fun b h=>absurd h HE2.out.2⟩
 | true=>
 go_wp2_with fail
 refine(HBD.out _ H3.out.1).mono ?_
 rintro e w4 ⟨rfl,hb4⟩
 have H4:=hide (H3.out.next hb4)
 clear hb4 HBD H3
 cases bd with
 | false=>
  have HE2:Hid (err=5/\¬err=0):=by have:=HE1.out;simp at this;exact⟨this,by rw[this];decide⟩
  clear HE1
  go_wp2_with fail
  exact bodyPost_ret (v:=.tuple #[.slice none 0 0,.bool false,.int .i64 5]) (by simp[results,Tryz.results100,go_sem]) rfl ⟨none,0,0,false,by rw[HE2.out.1],H4.out.1,fun _=>⟨rfl,rfl⟩,fun b h=>absurd h HE2.out.2⟩
 | true=>
 have HE2:Hid (err=0):=by have:=HE1.out;simp at this;exact this
 have HF2:=hide (HF.out HE2.out)
 have HC2:=hide (HC.out HE2.out)
 have HCN2:=hide (HCN.out rfl)
 clear HE1 HF HC HCN
 go_wp2_with fail
 refine(HCN2.out _ H4.out.1).mono ?_
 rintro e w5 ⟨g,c,rfl,H5a⟩
 have H5:=hide (H4.out.next H5a.out.1)
 have H5h:Hid (Has w4.heap.size g c b0 w5):=H5a.out.2
 have HW:Hid (w.heap.size<=w4.heap.size):=H4.out.1.size
 obtain⟨⟨v0,v1,v2,v3⟩,u0,u1,u2,u3⟩:=H5.out.2.2
 clear H4 H5a HCN2
 go_wp2_with fail
 refine(HF2.out w5 w4.heap.size g c H5.out.1 HW.out H5h.out).mono ?_
 rintro e w6 h6
 have HB6:Hid (Below w.heap.size w w6):=H5.out.1.trans (mi h6.2.1 (Nat.le_trans HW.out H5h.out.lt.1) H5h.out.lt.2)
 have H6h:=hide h6.2.2
 obtain⟨rfl,_,_⟩:=h6
 clear H5h HF2
 cases o with
 | none=>
  simp only[Option.isSome_none]
  go_wp2_with fail
  exact bodyPost_ret (v:=.tuple #[.slice none 0 0,.bool false,.int .i64 0]) (by simp[results,Tryz.results100,go_sem]) rfl ⟨none,0,0,false,by rw[HE2.out],HB6.out,fun _=>⟨rfl,rfl⟩,fun b _ h=>by cases h⟩
 | some b=>
  simp only[Option.isSome_some]
  have HH:=hide (H6h.out b rfl)
  have HCC:=hide (HC2.out w6 _ g c b rfl HB6.out HH.out)
  clear H6h HC2
  go_wp2_with fail
  refine HCC.out.2.mono ?_
  rintro e w7 ⟨a1,c1,l1,rfl,H7⟩
  have HB7:Hid (Below w.heap.size w w7):=HB6.out.trans (H7.out.1.mono HB6.out.size)
  go_wp2_with fail
  exact bodyPost_ret (v:=.tuple #[.slice a1 4 c1,.bool true,.int .i64 0]) (by simp[results,Tryz.results100,go_sem]) rfl ⟨a1,4,c1,true,by rw[HE2.out],HB7.out,fun h=>absurd ⟨HE2.out,rfl⟩ h,fun b' _ e=>by obtain rfl:=Option.some.inj e;exact⟨rfl,rfl,HCC.out.1,w6,l1,HB6.out.size,H7.out⟩⟩
theorem xI {cp ct:Int} {cl bd:Bool} (h:tY cp ct cl bd=0):cp=0/\ct=0/\cl=true/\bd=true:=by
 unfold tY at h
 split at h
 ·split at h
  ·split at h
   ·rename_i h1 h2 h3
    simp at h3
    exact⟨h1,h2,h3.1,h3.2⟩
   ·cases h
  ·rename_i h1 h2;exact absurd h h2
 ·rename_i h1;exact absurd h h1
theorem AQ {n:Nat} {q:List (Tm n)} (h:eX n q=true):q.length=4:=by
 unfold eX at h
 simp at h
 exact h.1
theorem Gq {n:Nat} {q:List (Tm n)} (h:eX n q=true):∀y∈lT n q,ai y:=by
 intro y hy
 simp only[lT,List.mem_map]at hy
 obtain⟨x,hx,rfl⟩:=hy
 unfold eX at h
 simp only[Bool.and_eq_true,List.all_eq_true]at h
 have h2:=h.2 x hx
 unfold okB at h2
 simp only[Bool.and_eq_true,beq_iff_eq]at h2
 exact qA n x h2.1
theorem Nh {B:Nat} {w:World} {n:Nat} {q:List (Tm n)} {a:Option Addr} (h:Lies B w n q a):∀y∈lT n q,InA B w y:=by
 intro y hy
 simp only[lT,List.mem_map]at hy
 obtain⟨x,hx,rfl⟩:=hy
 rcases h with h|⟨b,o,_,_,h⟩
 ·rw[h]at hx;cases hx
 ·obtain⟨i,hi⟩:=List.getElem?_of_mem hx
  exact(h i x hi).2
theorem A8 {B:Nat} {w:World} {n:Nat} {q:List (Tm n)} {a:Option Addr} (h:Lies B w n q a) (k:eX n q=true):Bnd B w (lT n q):=
 ⟨by rw[kZ];exact AQ k,fun y hy=>⟨Nh h y hy,Gq k y hy⟩⟩
theorem xN (n m o:Nat) (p:Tm n) (t:Tm m) (q:List (Tm o)) (a:Option Addr) (c B:Nat) (w:World) (hp:In B w n p) (ht:In B w m t) (hq:Lies B w o q a) (hB:B<=w.heap.size)
    (hNp:(nodes n p).length<=2097152) (hNt:(nodes m t).length<=2097152) (hNq:∀y∈q,(nodes o y).length<=2097152) (hql:q.length<=9223372036854775807):
    Calls Tryz.prog 100 #[val n p,val m t,.slice a q.length c] w (Ag (tY (aQ n p) (aQ m t) (ja m t) (eX o q)) (fit n p m t (lT o q)) w):=by
 cases n with
 | zero=>exact hp.elim
 | succ n=>
 cases m with
 | zero=>exact ht.elim
 | succ m=>
 refine Eb w p.1.1 p.1.2.1 t.1.1 t.1.2.1 p.1.2.2 t.1.2.2 p.2.1.1 t.2.1.1 p.2.2.length p.2.1.2 t.2.2.length t.2.1.2 a q.length c _ _ _ _ _ (lT o q) ?_ ?_ ?_ ?_ ?_ ?_ ?_
 ·exact fun w1 h1=>dh (n+1) p B w1 (hp.below (h1.mono hB)) (Nat.le_trans hB h1.size) hNp
 ·exact fun w1 h1=>dh (m+1) t B w1 (ht.below (h1.mono hB)) (Nat.le_trans hB h1.size) hNt
 ·intro w1 h1
  rw[<-dQ]
  exact gN (m+1) t B w1 (ht.below (h1.mono hB)) (Nat.le_trans hB h1.size)
 ·exact fun w1 h1=>BV o q a c B w1 (hq.below (h1.mono hB)) hql hNq (Nat.le_trans hB h1.size)
 ·intro hbd w1 h1
  have h4:=AQ hbd
  rcases hq with hq|⟨pb,po,rfl,hb,hq⟩
  ·rw[hq]at h4;simp at h4
  ·have hc:=DD o q 4 pb po c w1 h4 (by decide) (by decide) (fun w2 h2=>Fp fun i y hy=>((hq i y hy).1.below (h1.mono hB) hb).below (h2.mono (Nat.le_trans hB h1.size)) hb)
   rw[h4]
   exact hc
 ·intro he w1 base g c1 h1 hba hh
  obtain⟨e1,e2,e3,e4⟩:=xI he
  exact LH (n+1) p (m+1) t (lT o q) base g c1 B w1 (hp.below (h1.mono hB)) (ht.below (h1.mono hB)) (qA _ _ e1) (qA _ _ e2) ((A8 hq e4).below (h1.mono hB)) (Nat.le_trans hB hba) hh
 ·intro he w1 base g c1 b hf h1 hh
  obtain⟨e1,e2,e3,e4⟩:=xI he
  have hb1:=((A8 hq e4).fit ht (qA _ _ e2) hf).below (h1.mono hB)
  have hl:=Kh hh (fun y hy=>(hb1.2 y hy).1) (Nat.le_trans hB h1.size)
  have hlen:(Ba b).length=4:=by simp[Ba,hb1.1]
  have hc:=sP (top b) (fV _) (Ba b) (some ⟨g,0,none⟩) c1 w1.heap.size w1 hl (by omega) (GQ fun y hy=>⟨(hb1.2 y hy).2,fun h0=>by
   have hin:=(hb1.2 y hy).1
   obtain⟨n',x⟩:=y
   simp only at h0
   subst h0
   exact hin.elim⟩) (Nat.le_refl _)
  rw[hlen]at hc
  exact⟨hb1.1,hc⟩
theorem yV {n:Nat} {x:Tm (n+1)} (h:av (n+1) x=true):x.1.1≠5/\x.1.1≠6/\∀y∈x.2.2,av n y=true:=by
 simp only[av,Bool.and_eq_true,Bool.not_eq_true',List.all_eq_true]at h
 exact⟨by simpa using h.1.1,by simpa using h.1.2,h.2⟩
def QA:(n:Nat)->Tm n->Bool
 | 0,_=>true
 | n+1,x=> !(x.1.1==5) && x.2.2.all fun y=>QA n y
def Fx (D:Nat) (l:List (Tm D)) (d:List An):Prop:=∀(i:Nat) (z:An),d[i]? =some z->∃y,l[i]? =some y/\same D y z.1 z.2=true/\ai ⟨D,y⟩
theorem xC {n m:Nat}:(p:List (Tm n))->(q:List (Tm m))->(b c:List An)->gz (fun x y b=>fit n x m y b) p q b=some c->∀(i:Nat) (x:Tm n) (y:Tm m),p[i]? =some x->q[i]? =some y->∃b1 c1,fit n x m y b1=some c1
 | [],_,_,_,_,i,x,y,hx,_=>by simp at hx
 | _::_,[],_,_,_,i,x,y,_,hy=>by simp at hy
 | x::p,y::q,b,c,h,i,x',y',hx,hy=>by
  simp only[gz]at h
  obtain⟨d,h1,h2⟩:=Option.bind_eq_some_iff.1 h
  cases i with
  | zero=>
   simp at hx hy
   subst hx hy
   exact⟨b,d,h1⟩
  | succ i=>exact xC p q d c h2 i x' y' (by simpa using hx) (by simpa using hy)
theorem L8 {α β:Type} (f:α->Int) (g:β->Int):(p:List α)->(q:List β)->p.length=q.length->(∀(i:Nat) (x:α) (y:β),p[i]? =some x->q[i]? =some y->f x<=g y)->(p.map f).sum<=(q.map g).sum
 | [],[],_,_=>by simp
 | [],_::_,h,_=>by simp at h
 | _::_,[],h,_=>by simp at h
 | x::p,y::q,h,hf=>by
  have h0:=hf 0 x y (by simp) (by simp)
  have h1:=L8 f g p q (by simpa using h) fun i x' y' hx hy=>hf (i+1) x' y' (by simpa using hx) (by simpa using hy)
  simp only[List.map_cons,List.sum_cons]
  omega
theorem Fy {α β:Type} (f:α->Int) (g:β->Int):(p:List α)->(q:List β)->(i j:Int)->i<=j->p.length=q.length->(∀(i:Nat) (x:α) (y:β),p[i]? =some x->q[i]? =some y->f x<=g y)->p.foldl (fun m y=>max m (f y)) i<=q.foldl (fun m y=>max m (g y)) j
 | [],[],_,_,h,_,_=>h
 | [],_::_,_,_,_,h,_=>by simp at h
 | _::_,[],_,_,_,h,_=>by simp at h
 | x::p,y::q,i,j,hij,h,hf=>by
  have h0:=hf 0 x y (by simp) (by simp)
  simp only[List.foldl_cons]
  exact Fy f g p q _ _ (by omega) (by simpa using h) fun i x' y' hx hy=>hf (i+1) x' y' (by simpa using hx) (by simpa using hy)
theorem uz {α:Type} (f:α->Int) (hf:∀x,0<=f x):(p:List α)->(y:α)->y∈p->f y<=(p.map f).sum/\0<=(p.map f).sum
 | [],y,h=>by cases h
 | x::p,y,h=>by
  have hx:=hf x
  have h0:0<=(p.map f).sum:=by
   cases p with
   | nil=>simp
   | cons z p=>exact(uz f hf (z::p) z (by simp)).2
  simp only[List.map_cons,List.sum_cons]
  rcases List.mem_cons.1 h with rfl|h
  ·omega
  ·have:=uz f hf p y h
   omega
theorem FQ {α:Type} (f:α->Int):(p:List α)->(i:Int)->i<=p.foldl (fun m y=>max m (f y)) i
 | [],_=>Int.le_refl _
 | x::p,i=>by
  simp only[List.foldl_cons]
  have:=FQ f p (max i (f x))
  omega
theorem De {α:Type} (f:α->Int):(p:List α)->(i:Int)->(y:α)->y∈p->f y<=p.foldl (fun m y=>max m (f y)) i
 | [],_,y,h=>by cases h
 | x::p,i,y,h=>by
  simp only[List.foldl_cons]
  rcases List.mem_cons.1 h with rfl|h
  ·have:=FQ f p (max i (f y))
   omega
  ·exact De f p _ y h
theorem OO:(n:Nat)->(x:Tm n)->(m:Nat)->(t:Tm m)->(b c:List An)->QA n x=true->fit n x m t b=some c->sz n x<=sz m t/\dU n x<=dU m t
 | 0,_,_,_,_,_,_,h=>by simp[fit]at h
 | _+1,_,0,_,_,_,_,h=>by simp[fit]at h
 | n+1,x,m+1,t,b,c,hv,h=>by
  have s0:=(dI (m+1) t).1
  have d0:=(eO (m+1) t).1
  simp only[QA,Bool.and_eq_true,List.all_eq_true]at hv
  have h5:¬x.1.1=5:=by simpa using hv.1
  by_cases h4:x.1.1=4
  ·have h6:¬x.1.1=6:=by omega
   simp only[fit,if_neg h6,if_neg h5,if_pos h4]at h
   split at h
   ·rename_i htl
    have each:=xC _ _ b c h
    have key:∀(i:Nat) (y:Tm n) (z:Tm m),x.2.2[i]? =some y->t.2.2[i]? =some z->sz n y<=sz m z/\dU n y<=dU m z:=fun i y z hy hz=>by
     obtain⟨b1,c1,h1⟩:=each i y z hy hz
     exact OO n y m z b1 c1 (hv.2 y (List.mem_of_getElem? hy)) h1
    have k1:=L8 (fun y=>1+sz n y) (fun y=>1+sz m y) x.2.2 t.2.2 htl.2 fun i y z hy hz=>by have:=key i y z hy hz;omega
    have k2:=Fy (fun y=>dU n y) (fun y=>dU m y) x.2.2 t.2.2 0 0 (Int.le_refl _) htl.2 fun i y z hy hz=>(key i y z hy hz).2
    simp only[sz,dU,if_pos h4,if_pos htl.1]
    omega
   ·cases h
  ·simp only[sz,dU,if_neg h4]
   simp only[sz,dU]at s0 d0
   exact⟨s0,d0⟩
theorem uT {n:Nat} {x:Tm n}:aQ n x=0 ↔ aY n x=true/\dU n x<=12/\sz n x<=200:=by
 rw[<-ik]
 unfold zS
 constructor
 ·intro h
  split at h
  ·rename_i hf
   split at h
   ·cases h
   ·rename_i hd
    exact⟨hf,by omega,by omega⟩
  ·cases h
 ·rintro ⟨h1,h2,h3⟩
  rw[if_pos h1,if_neg (by omega)]
def Ju (a:An):Prop:=aQ a.1 a.2=0/\(aU a=6∨av a.1 a.2=true)
theorem uW:Parts Ju:=by
 intro n x y h hy
 obtain⟨h1,h2⟩:=h
 obtain⟨f1,f2,f3⟩:=uT.1 h1
 have hr:ai ⟨n+1,x⟩:=ax.2 f1
 have gx:=dD (aL n x) (hr (aL n x) (by simp[nodes,aL]))
 have h4:x.1.1=4:=by
  by_cases h4:x.1.1=4
  ·exact h4
  ·have:x.2.2=[]:=List.eq_nil_of_length_eq_zero (gx.2.2.2.2 h4)
   rw[this]at hy
   cases hy
 have hs:=uz (fun y=>1+sz n y) (fun y=>by have:=(dI n y).1;omega) x.2.2 y hy
 have hd:=De (fun y=>dU n y) x.2.2 0 y hy
 simp only[sz,dU,if_pos h4]at f2 f3
 refine⟨uT.2 ⟨ax.1 (aH n x y hr hy),by simp only at hd ⊢;omega,by simp only at hs ⊢;omega⟩,Or.inr ?_⟩
 rcases h2 with h2|h2
 ·simp only[aU]at h2;omega
 ·exact(yV h2).2.2 y hy
theorem xS {D:Nat} {l:List (Tm D)} {c:List An} (h:∀y∈c,Ju y) (hl:l.length=4) (hc:c.length=4) (ht:Fx D l c):eX D l=true:=by
 unfold eX
 rw[hl]
 simp only[decide_true,Bool.true_and,List.all_eq_true]
 intro y hy
 obtain⟨i,hi⟩:=List.getElem?_of_mem hy
 have hlt:i<c.length:=by have:=(List.getElem?_eq_some_iff.1 hi).1;omega
 obtain⟨y',hy',hs,_⟩:=ht i c[i] (List.getElem?_eq_getElem hlt)
 rw[hi]at hy'
 obtain rfl:=Option.some.inj hy'
 obtain⟨k1,k2⟩:=h c[i] (List.getElem_mem _)
 unfold okB
 rw[aX hs,k1,jq hs,<-dQ,bD _ _ _ _ hs]
 rcases k2 with k2|k2
 ·have:aU (⟨(c[i]).1,(c[i]).2⟩:An)=6:=k2
  rw[this];rfl
 ·rw[k2];simp
theorem FL {b:List An} {w1 w':World} {a:Option Addr} {c:Nat} {l:List (Tm (top b))} (h:CpRow (top b) (Ba b) w1 w' a c l) (hb:∀y∈b,ai y) (h4:b.length=4):
    Lies w'.heap.size w' (top b) l a/\l.length=4/\Fx (top b) l b/\∀y∈l,ai ⟨top b,y⟩:=by
 obtain⟨k1,k2,k3,k4,k5,k6⟩:=h
 have hu:(Ba b).length=4:=by simp[Ba,h4]
 have hlies:Lies w'.heap.size w' (top b) l a:=by
  rcases k6 with k6|⟨q,o,e,hq1,hq2,k6⟩
  ·exact Or.inl k6
  ·exact Or.inr ⟨q,o,e,hq2,fun i y hy=>⟨(k6 i y hy).1,(k6 i y hy).2.1⟩⟩
 have ht:Fx (top b) l b:=by
  intro i z hz
  have hi:i<l.length:=by have:=(List.getElem?_eq_some_iff.1 hz).1;omega
  have hzu:(Ba b)[i]? =some (lift (top b) z.1 z.2):=by simp[Ba,hz]
  have hs:=jG _ _ _ k5 i l[i] _ (List.getElem?_eq_getElem hi) hzu
  have hls:=fB (top b) z.1 (zX b z (List.mem_of_getElem? hz)) z.2 (hb z (List.mem_of_getElem? hz))
  have hs2:=aW _ _ _ _ _ _ hs hls
  exact⟨l[i],List.getElem?_eq_getElem hi,hs2,ax.2 (by rw[ib _ _ _ _ hs2];exact ax.1 (hb z (List.mem_of_getElem? hz)))⟩
 refine⟨hlies,by omega,ht,fun y hy=> ?_⟩
 obtain⟨i,hi⟩:=List.getElem?_of_mem hy
 have hi2:i<b.length:=by have:=(List.getElem?_eq_some_iff.1 hi).1;omega
 obtain⟨y',hy',_,hr⟩:=ht i b[i] (List.getElem?_eq_getElem hi2)
 rw[hi]at hy'
 obtain rfl:=Option.some.inj hy'
 exact hr
def dn:Tm 1:=((6,0,.empty),(none,0),[])
theorem Pn (B:Nat) (w:World):In B w 1 dn:=⟨⟨by simp[dn,bR],by simp[dn,bR],Nat.zero_le _,by simp[dn],by simp[dn]⟩,Or.inl rfl⟩
theorem Qg:aY 1 dn=true:=by
 have:(ByteArray.empty).toList=[]:=by rw[ByteArray.toList_eq];rfl
 simp[aY,dn,good,aL,this]
theorem d1 (x:Tm 1) (h:x.1.1≠4):dU 1 x=0/\sz 1 x=0:=by simp[dU,sz,h]
theorem Au:aQ 1 dn=0:=by
 rw[uT]
 have a1:=d1 dn (by simp[dn])
 exact⟨Qg,by rw[a1.1];decide,by rw[a1.2];decide⟩
theorem JY:eX 1 (List.replicate 4 dn)=true:=by
 have:okB 1 dn=true:=by
  unfold okB
  rw[Au]
  rfl
 unfold eX
 simp only[List.length_replicate,decide_true,Bool.true_and,List.all_eq_true]
 intro y hy
 rw[List.eq_of_mem_replicate hy]
 exact this
theorem BI (w:World):Calls Tryz.prog 101 #[] w fun e w'=>e=.returned (.slice (some ⟨w.heap.size,0,none⟩) 4 4)/\Hid (CpRow 1 (List.replicate 4 dn) w w' (some ⟨w.heap.size,0,none⟩) 4 (List.replicate 4 dn)):=by
 obtain⟨it,hit,htz0,htz1,htz2⟩:=info_parts gu
 go_enter Tryz.func101,Tryz.ntmps101
 go_wp2_with (at_make;refine wpList_make_full _ rfl _ _ 28 rfl w.heap.size 30 it _ 4 Tryz.underlying28 hit htz0 htz1 _ _ _ _ 4 rfl rfl rfl rfl (by rw[htz2];omega) (by unfold maxLen;omega) (Nat.le_refl _) ?_;intro w0 hown0 hgrow0)
 have HS0:=hide (qd 1 (List.replicate 4 dn) 4 hown0)
 have HB0:Hid (Below w.heap.size w w0):=⟨hgrow0.os,hgrow0.tape,hgrow0.output,hgrow0.size,fun k hk=>hgrow0.block k hk (by simp)⟩
 clear hown0 hgrow0 hit htz0 htz1 htz2
 go_loopw [6] (fun i wr=>∃k:Nat,k<=4/\i=.int .i64 k/\Hid (Below w.heap.size w wr/\CpP 1 (List.replicate 4 dn) 4 w.heap.size k (List.replicate k dn) wr)) (fun i _=>4-(intOf i).toNat)
 case atStart=>exact⟨0,by omega,rfl,HB0.out,HS0.out⟩
 case round=>
  obtain⟨k,hk,rfl,HR⟩:=hrel
  clear HS0 HB0
  by_cases hlt:k<4
  ·have hx:(List.replicate 4 dn)[k]? =some dn:=by rw[List.getElem?_replicate,if_pos hlt]
   have hin:In wr.heap.size wr 1 dn:=Pn _ _
   have hoff:Off (fun q=>w.heap.size<q) 1 dn:=by simp[Off,dn]
   have HST:=hide (HR.out.2.step hlt dn hx (Below.refl _ _) dn hin hoff (by simp[same,dn,ah]))
   have HB2:Hid (Below w.heap.size w (iJ wr w.heap.size (k*4) (gZ 1 dn))):=by
    have h1:=HR.out.1
    exact⟨h1.os,h1.tape,h1.output,Nat.le_trans h1.size (Nat.le_of_eq (aJ _ _ _ _).symm),fun q hq=>(aA (by omega) _ _ _ _).trans (h1.block q hq)⟩
   obtain⟨z,hz⟩:∃z,((List.replicate k dn).map (fun x=>(⟨1,x⟩:An))++List.replicate (4-k) zA)[k]? =some z:=⟨_,List.getElem?_eq_getElem (by simp;omega)⟩
   obtain⟨c0,c1,c2,c3⟩:=HR.out.2.2.1.cells k z hz
   have hf:=fun j=>HR.out.2.2.1.free j
   have hk1:(0:Int)<=(k:Int):=by omega
   have hk2:(k:Int)<4:=by omega
   have hk3:(k:Int)<=4:=by omega
   clear hx hin hoff hz HR
   go_wp2_with fail
   go_roundw
   case rel=>
    refine⟨k+1,by omega,by go_num,HB2.out, ?_⟩
    have e:List.replicate (k+1) dn=List.replicate k dn++ [dn]:=List.replicate_succ'
    rw[e]
    exact HST.out
   case measure=>simp[intOf];omega
  ·obtain rfl:k=4:=by omega
   have HD:=hide (HR.out.2.done rfl (by omega) HR.out.1 (by unfold maxLen;omega))
   go_wp2_with fail
   go_ret
   exact⟨rfl,HD.out⟩
end Go.Proofs.YtmbjgiaebneodaaGreat
