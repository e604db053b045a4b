/- What is proved here: plain facts and contracts that the claimed theorem stands on. No condition but those that each names. -/
import Derived.Test.YtmbjgiaebneodaaGreatG31
import Derived.Deep.DeepAppendWide
import Derived.MapKept
namespace Go.Proofs.YtmbjgiaebneodaaGreat
open Go.RowKit Go.Maps
open Go.RowKit
open Go.MapKept
set_option maxRecDepth 100000
set_option maxHeartbeats 4000000
variable {base n:Nat} {bp:BL} {mo:Option Nat} {g:Int×Int->Bool} {w:World}
def PP (base:Nat) (bp:BL) (mo:Option Nat) (n:Nat) (g:Int×Int->Bool) (x:Int) (j:Nat) (a:Option Addr) (L c:Nat) (w W:World):Prop:=
 (bO g x j).length=L/\NRow w.heap.size (.slice a L c) (bO g x j) W/\BdAt base bp mo n (wo g (x::(bO g x j).take j)) W/\Kee (fun b=>mo=some b) w W
def InS (base:Nat) (bp:BL) (mo:Option Nat) (n:Nat) (g:Int×Int->Bool) (x:Int) (j:Nat) (l:List Int) (ra:Option Addr) (rc:Nat) (q:Nat) (a:Option Addr) (L c:Nat) (w W:World):Prop:=
 (ed g x j l q).length=L/\NRow w.heap.size (.slice a L c) (ed g x j l q) W/\NRow w.heap.size (.slice ra l.length rc) l W/\(∀b,(Value.slice a L c).ownBlock=some b->(Value.slice ra l.length rc).ownBlock≠some b)/\BdAt base bp mo n (wo g (x::(bO g x (j+1)).take (j+1))) W/\Kee (fun b=>mo=some b) w W
theorem sQ {v:Value} {a:Option Addr} {L c:Nat} {l:List Int} (h:IRow v l w) (e:v=.slice a L c) (i:Nat) (k:Int) (hk:l[i]? =some k):∃g o,a=some ⟨g,o,none⟩/\w.cell? ⟨g,o+i,none⟩=some (.int .i64 k):=by
 obtain⟨a',c',e',h⟩:=h.cells
 rw[e]at e'
 injection e' with e1 e2 e3
 subst e1
 exact h i k hk
theorem InS.more {x:Int} {j:Nat} {l:List Int} {ra:Option Addr} {rc q:Nat} {a:Option Addr} {L c:Nat} {W:World} (h:InS base bp mo n g x j l ra rc q a L c w W) (hl:l.Nodup) (hsz:∀b,Nc bp mo b->b<w.heap.size) {y:Int} (hy:l[q]? =some y) (hn:(ed g x j l q).contains y=false) {o:Obj} {g5 c5:Nat} {w5:World}
    (ho:w5.ownsRow w.heap.size 3 1 (.slice (some ⟨g5,0,none⟩) (L+1) c5) (L+1) (iK (ed g x j l q)++ [.int .i64 y])) (hgr:(W.alloc o).grownBy w5 (Value.slice a L c).ownBlock) (hat:(Value.slice a L c).ownBlock=some g5∨g5=(W.alloc o).heap.size):
    InS base bp mo n g x j l ra rc (q+1) (some ⟨g5,0,none⟩) (L+1) c5 w w5:=by
 obtain⟨h1,h2,h3,h4,h5,h6⟩:=h
 have e:ed g x j l (q+1)=ed g x j l q++ [y]:=by
  rw[oL hl hy,hn]
  rfl
 have hal:Below W.heap.size W (W.alloc o):=(Below.refl _ _).alloc (Nat.le_refl _) _
 have kg:Kee (fun b=>(Value.slice a L c).ownBlock=some b) W w5:=Kee.trans (aj hal _) (cO hgr) fun b _ e=>e
 have hlo:∀b,(Value.slice a L c).ownBlock=some b->w.heap.size<=b:=fun b hb=>(h2.lt b hb).1
 refine⟨by rw[e,List.length_append,h1];rfl, ?_,aG h3 kg fun b hb e=>h4 b e hb, ?_,h5.kee kg fun b hb e=> ?_,Kee.trans h6 kg fun b hb e=> ?_⟩
 ·unfold NRow
  rw[e,jP,List.length_append,h1]
  exact ho
 ·intro b hb hb'
  have e1:g5=b:=Option.some.inj hb
  subst e1
  rcases hat with e2|e2
  ·exact h4 _ e2 hb'
  ·have:=(h3.lt _ hb').2
   simp at e2
   omega
 ·have:=hsz b hb
  have:=hlo b e
  omega
 ·have:=hlo b e
  omega
theorem Jg (base:Nat) (bp:BL) (mo:Option Nat) (n:Nat) (g:Int×Int->Bool) (x:Int) (w:World) (HG:Hid (OKg g)) (HSZ:Hid (∀b,Nc bp mo b->b<w.heap.size))
    (HO:Hid (Calls Tryz.prog 85 #[.pointer (some ⟨bp.b,bp.o,none⟩),.int .i64 x] w fun e w'=>∃a L c,e=.returned (.slice a L c)/\Hid (PP base bp mo n g x 0 a L c w w'))):
    Calls Tryz.prog 60 #[.pointer (some ⟨bp.b,bp.o,none⟩),.int .i64 x,.bool false] w fun e w'=>∃v,e=.returned v/\Hid (NRow w.heap.size v (tC g x) w'/\BdAt base bp mo n (wo g (x::tC g x)) w'/\Kee (fun b=>mo=some b) w w'):=by
 obtain⟨it,hit,htz0,htz1,htz2⟩:=info_parts Gb
 have HIT:Hid (Tryz.prog.info? 3=some it/\it.zero=some (.int .i64 0)/\it.size=1/\it.bytes=8):=⟨hit,htz0,htz1,htz2⟩
 clear hit htz0 htz1 htz2
 go_enter Tryz.func60,Tryz.ntmps60
 go_wp2_with fail
 refine HO.out.mono ?_
 rintro e w1 ⟨a,L,c,rfl,H0⟩
 go_wp2_with fail
 go_loopw [7,8] (fun v i wr=>∃(j:Nat) (a:Option Addr) (L c:Nat),v=.slice a L c/\i=.int .i64 j/\j<=99/\L<=99/\Hid (PP base bp mo n g x j a L c w wr)) (fun _ i _=>100-(intOf i).toNat)
 case atStart=>exact⟨0,a,L,c,rfl,rfl,by omega,by have h1:=(gI HG.out x 0).le;have h2:=H0.out.1;omega,H0.out⟩
 case round=>
  clear H0 HO
  obtain⟨j,a,L,c,rfl,rfl,hj,hL,HJ⟩:=hrel
  by_cases hjl:j<L
  ·obtain⟨y,hy⟩:∃y,(bO g x j)[j]? =some y:=⟨(bO g x j)[j]'(by rw[HJ.out.1];exact hjl),List.getElem?_eq_getElem _⟩
   obtain⟨gb,o,rfl,c1⟩:=sQ HJ.out.2.1.row rfl j y hy
   have HY:=hide hy
   have HYI:Hid (bR y):=by
    have:=(gI HG.out x j).rng y (List.mem_of_getElem? hy)
    unfold Hid bR
    omega
   clear hy
   have j1:(0:Int)<=(j:Int):=by omega
   have j2:(j:Int)<(L:Int):=by omega
   have HP:=hide (ru HJ.out.2.2.1 (HG.out.wo _) HYI.out)
   go_wp2_with fail
   refine HP.out.mono ?_
   rintro e w2 ⟨v2,rfl,HV⟩
   obtain⟨l,hl⟩:∃l,l=o7 (wo g (x::(bO g x j).take j)) y:=⟨_,rfl⟩
   rw[<-hl]at HV
   obtain⟨M,hM⟩:∃M,M=l.length:=⟨_,rfl⟩
   have hM99:M<=99:=by
    have:=vJ (wo g (x::(bO g x j).take j)) y
    rw[hM,hl]
    exact this
   obtain⟨ra,rc,hv2⟩:∃ra rc,v2=.slice ra M rc:=by
    obtain⟨a',c',e,_⟩:=HV.out.1.row
    exact⟨a',c',by rw[hM];exact e⟩
   subst hv2
   have HND:Hid l.Nodup:=by rw[hl];exact ni _ _
   have HTL:Hid (∀q,(ed g x j l q).length<=99):=by rw[hl];exact fun q=>KU HG.out HY.out q
   have HALL:Hid (ed g x j l M=bO g x (j+1)):=by rw[hM,hl];exact xR HY.out
   have HIN:Hid (InS base bp mo n g x j l ra rc 0 (some ⟨gb,o,none⟩) L c w w2):=by
    have hw:=NY HY.out (g:=g) (x:=x)
    have hV:=HV.out
    have hsz:∀b,mo=some b->b<w.heap.size:=fun b e=>HSZ.out b (Or.inr e)
    have hk:Kee (fun b=>mo=some b) w w2:=Kee.trans HJ.out.2.2.2 hV.2.2 fun _ _ e=>e
    have e0:ed g x j l 0=bO g x j:=by simp[ed,yQ]
    have hr2:NRow w.heap.size (.slice (some ⟨gb,o,none⟩) L c) (bO g x j) w2:=aG HJ.out.2.1 hV.2.2 fun b hb e=>by
     have:=(HJ.out.2.1.lt b hb).1
     have:=hsz b e
     omega
    refine⟨by rw[e0];exact HJ.out.1,by rw[e0];exact hr2, ?_, ?_, ?_,hk⟩
    ·rw[<-hM]
     exact qg hV.1 HJ.out.2.2.2.size
    ·intro b hb hb'
     rw[<-hM]at hb'
     have:=(hV.1.lt b hb').1
     have:=(HJ.out.2.1.lt b hb).2
     omega
    ·rw[<-hw]
     exact hV.2.1
   replace hM:=hide hM
   clear HV HJ HP c1 hl
   go_wp2_with fail
   go_loopw [7,28] (fun v i wr=>∃(q:Nat) (a:Option Addr) (L c:Nat),v=.slice a L c/\i=.int .i64 q/\q<=M/\L<=99/\Hid (InS base bp mo n g x j l ra rc q a L c w wr)) (fun _ i _=>M-(intOf i).toNat)
   case atStart=>exact⟨0,_,L,c,rfl,rfl,Nat.zero_le _,hL,HIN.out⟩
   case round=>
    clear HIN
    obtain⟨q,a,L,c,rfl,rfl,hq,hL,HI⟩:=hrel
    by_cases hqM:q<M
    ·obtain⟨z,hz⟩:∃z,l[q]? =some z:=⟨l[q]'(by rw[<-hM.out];exact hqM),List.getElem?_eq_getElem _⟩
     obtain⟨gr,ro,rfl,c2⟩:=sQ HI.out.2.2.1.row rfl q z hz
     have HZ:=hide hz
     clear hz
     have q1:(0:Int)<=(q:Int):=by omega
     have q2:(q:Int)<(M:Int):=by omega
     have HCN:=hide (xk HI.out.2.1.row (by rw[HI.out.1];omega) z)
     obtain⟨t,ht⟩:∃t,t=(ed g x j l q).contains z:=⟨_,rfl⟩
     rw[<-ht]at HCN
     have HT:=hide ht
     clear ht
     go_wp2_with fail
     refine HCN.out.mono ?_
     rintro e w3 ⟨rfl,rfl⟩
     cases t
     ·have HLE:=hide (HTL.out (q+1))
      have HL1:Hid (L+1<=99):=by
       have h1:=HTL.out (q+1)
       have h2:=HI.out.1
       rw[oL HND.out HZ.out,<-HT.out,List.length_append]at h1
       simp at h1
       unfold Hid
       omega
      have HSW:Hid (w.heap.size<=w3.heap.size):=HI.out.2.2.2.2.2.size
      have HOW:=hide HI.out.2.1
      have HLL:=hide HI.out.1
      go_wp2_with (first
       | (at_builtin;refine wpList_append_lies _ rfl _ _ 94 rfl w.heap.size 3 it _ 1 8 Tryz.underlying94 HIT.out.1 HIT.out.2.1 HIT.out.2.2.1 HIT.out.2.2.2 rfl (by decide) (.slice a L c) L (iK (ed g x j l q)) rfl ((show w3.ownsRow w.heap.size 3 1 (.slice a L c) L (iK (ed g x j l q))from by have h:=HOW.out;unfold NRow at h;rw[HLL.out]at h;exact h).alloc _) ⟨w3.heap.size,0,none⟩ 1 1 [.int .i64 z] rfl rfl (World.news_of_block (cs:= #[.int .i64 z]) (t:=3) (fr:=(0,0)) (heap_alloc_new w3 _)) (by simp[Value.oneCell']) (by decide) (by unfold maxLen;omega) (by omega) (by have:=HSW.out;simp;omega) _ rfl ?_;intro g5 c5 w5 hown5 hgrow5 hat5 hlt5;have HO5:=hide (HI.out.more HND.out HSZ.out HZ.out HT.out.symm hown5 hgrow5 hat5);clear hown5 hgrow5 hat5 hlt5))
      go_roundw
      case rel=>exact⟨q+1,_,L+1,c5,rfl,by go_num,by omega,HL1.out,HO5.out⟩
      case measure=>simp[intOf];omega
     ·have HO5:Hid (InS base bp mo n g x j l (some ⟨gr,ro,none⟩) rc (q+1) a L c w w3):=by
        have h:=HI.out
        unfold InS at h ⊢
        have e:ed g x j l (q+1)=ed g x j l q:=by
         rw[oL HND.out HZ.out,<-HT.out]
         simp
        rw[e]
        exact h
      go_wp2_with fail
      go_roundw
      case rel=>exact⟨q+1,_,L,c,rfl,by go_num,by omega,hL,HO5.out⟩
      case measure=>simp[intOf];omega
    ·obtain rfl:q=M:=by omega
     have HE:Hid (PP base bp mo n g x (j+1) a L c w wr):=by
      obtain⟨h1,h2,_,_,h5,h6⟩:=HI.out
      rw[HALL.out]at h1 h2
      exact⟨h1,h2,h5,h6⟩
     have HJ9:Hid (j+1<=99):=by
      have:=(gI HG.out x j).le
      have:=(List.getElem?_eq_some_iff.1 HY.out).1
      unfold Hid
      omega
     go_wp2_with fail
     go_roundw
     case rel=>exact⟨j+1,a,L,c,rfl,by go_num,HJ9.out,hL,HE.out⟩
     case measure=>simp[intOf];omega
  ·have HE:Hid (bO g x j=tC g x):=Hd HG.out (by rw[HJ.out.1];omega)
   have hjl':¬(j:Int)<(L:Int):=by omega
   go_wp2_with fail
   go_ret
   obtain⟨h1,h2,h3,h4⟩:=HJ.out
   rw[List.take_of_length_le (by omega),HE.out]at h3
   rw[HE.out]at h2
   exact⟨_,rfl,h2,h3,h4⟩
theorem A7 (bp:BL) (x:Int) (w:World) (R:World->Prop) (HO:Hid (Calls Tryz.prog 85 #[.pointer (some ⟨bp.b,bp.o,none⟩),.int .i64 x] w fun e w'=>∃v,e=.returned v/\Hid (R w'))):
    Calls Tryz.prog 60 #[.pointer (some ⟨bp.b,bp.o,none⟩),.int .i64 x,.bool true] w fun e w'=>e=.returned (.slice none 0 0)/\R w':=by
 go_enter Tryz.func60,Tryz.ntmps60
 go_wp2_with fail
 refine HO.out.mono ?_
 rintro e w1 ⟨v,rfl,H0⟩
 go_wp2_with fail
 go_ret
 exact⟨rfl,H0.out⟩
def tJ (g:Int×Int->Bool) (x:Int) (al:Bool):List Int:=if al then []else tC g x
theorem JW (h:BdAt base bp mo n g w) (hg:OKg g) {x:Int} (hx:bR x) (al:Bool):Calls Tryz.prog 60 #[.pointer (some ⟨bp.b,bp.o,none⟩),.int .i64 x,.bool al] w fun e w'=>∃v,e=.returned v/\Hid (NRow w.heap.size v (tJ g x al) w'/\BdAt base bp mo n (wo g (x::tJ g x al)) w'/\Kee (fun b=>mo=some b) w w'):=by
 cases al
 ·rw[show tJ g x false=tC g x from if_neg (by decide)]
  refine Jg base bp mo n g x w hg (fun b hb=>(h.lt b hb).2) ?_
  refine(ru h hg hx).mono ?_
  rintro e w' ⟨v,rfl,HV⟩
  obtain⟨a,c,e,_⟩:=HV.out.1.row
  subst e
  exact⟨a,_,c,rfl,rfl,HV.out.1,HV.out.2.1,HV.out.2.2⟩
 ·refine(A7 bp x w (fun w'=>BdAt base bp mo n (wo g [x]) w'/\Kee (fun b=>mo=some b) w w') ?_).mono ?_
  ·refine(ru h hg hx).mono ?_
   rintro e w' ⟨v,rfl,HV⟩
   exact⟨v,rfl,HV.out.2⟩
  ·rw[show tJ g x true=[]from if_pos rfl]
   rintro e w' ⟨rfl,h1,h2⟩
   exact⟨_,rfl,NRow.nil _ _,h1,h2⟩
def qm:ByteArray:=⟨#[115,112,97,119,110]⟩
def Oo:ByteArray:=⟨#[101,110,100]⟩
def jM:ByteArray:=⟨#[116,97,107,101]⟩
def zn:ByteArray:=⟨#[115,101,110,100]⟩
def lX:ByteArray:=⟨#[108,111,115,116]⟩
def MB:Tc:=((0,0,⟨#[]⟩),(none,0),[])
structure Sy where
 last:Int
 ps:List (Int×ByteArray×Tc×List Tc)
 ways:Int×Int->List Tc
 bonds:Int×Int->Bool
 evs:List (ByteArray×Int×Int×Tc)
def Sy.get (s:Sy) (k:Int):Option (ByteArray×Tc×List Tc):=(s.ps.find? fun p=>p.1==k).map (·.2)
def Sy.put (s:Sy) (k:Int) (v:ByteArray×Tc×List Tc):Sy:={s with ps:=s.ps.map fun p=>if p.1=k then (k,v)else p}
def Sy.tell (s:Sy) (wt:ByteArray) (a b:Int) (t:Tc):Sy:={s with evs:=s.evs++ [(wt,a,b,t)]}
def Sy.add (s:Sy) (a:Int) (nm:ByteArray) (cs:Tc):Sy:=Sy.tell {s with last:=s.last+1,ps:=s.ps++ [(s.last+1,nm,cs,[])]} qm a (s.last+1) cs
def Sy.drop (s:Sy) (x how:Int):Sy:=Sy.tell {s with ps:=s.ps.eraseP fun p=>p.1==x} Oo x how MB
def Sy.fin (s:Sy) (x how:Int):Sy:=(tJ s.bonds x (how==1)).foldl (fun s y=>s.drop y 4) {s.drop x how with bonds:=wo s.bonds (x::tJ s.bonds x (how==1))}
def Sy.deliver (s:Sy) (room a b:Int) (t:Tc):Sy:=match s.get b with
 | none=>s
 | some (nm,cs,cms)=>if jC 13 t room cs cms=2 then s.tell lX a b t else if jC 13 t room cs cms=6 then s.fin b 3 else if jC 13 t room cs cms=0 then s.put b (nm,cs,cms++ [t])else s
def Sy.send (s:Sy) (a b:Int) (t:Tc):Sy:=if jT 12 a b t (s.ways (a,b)).length=0 then Sy.tell {s with ways:=upd s.ways (a,b) (s.ways (a,b)++ [t])} zn a b t else s.tell lX a b t
def Sy.link (s:Sy) (a b:Int):Sy:=if (s.get b).isSome then {s with bonds:=if uY a b=0 then upd s.bonds (gW a b) true else s.bonds}else s
def Sy.may (s:Sy) (n:Nat):Bool:=decide ((s.ps.length:Int)+n<=12) && decide (s.last+n<=90)
section
variable (n:Nat) (prog:List (Bh (n+1))) (room:Int)
def mG (nm:ByteArray):Bool:=(fO (n+1) nm prog).isSome
def Sy.made (s:Sy) (l:List (Int×ByteArray×Tc)):Bool:=s.may l.length && l.all fun x=>mG n prog x.2.1 && eD 13 x.2.2 room x.2.1==0
def Sy.follow (s:Sy) (a:Int) (tk:Tk):Sy:=
 let s:=tk.spawns.foldl (fun s x=>s.add a x.2.1 x.2.2) s
 let s:=tk.sends.foldl (fun s x=>s.send a x.1 x.2) s
 let s:=tk.links.foldl (fun s x=>s.link a x) s
 if tk.fate=1 then s.fin a 1 else s
def Sy.run (s:Sy) (a:Int):Sy×Int:=match s.get a with
 | none=>(s,4)
 | some (nm,cs,cms)=>if qQ n room prog nm a (s.last+1) cs cms=0 then match mh room prog nm a (s.last+1) cs cms with
     | none=>(s,0)
     | some tk=>
      let s:=(s.put a (nm,tk.state,tk.mail)).tell jM a 0 tk.message
      (if tk.fate=2∨tk.fate=3 then s.fin a tk.fate else if s.made n prog room tk.spawns=false then s.fin a 2 else s.follow a tk,0)
  else (s,qQ n room prog nm a (s.last+1) cs cms)
def Sy.arrive (s:Sy) (a b:Int):Sy×Int:=match s.ways (a,b)with
 | []=>(s,4)
 | t::l=>
  let s:={s with ways:=upd s.ways (a,b) l}
  (if (s.get b).isSome then s.deliver room a b t else s.tell lX a b t,0)
def Sy.inject (s:Sy) (a:Int) (k:Nat) (x:Tm k):Sy×Int:=if (s.get a).isSome=false then (s,4)else if aQ k x≠0 then (s,aQ k x)else if av k x=false then (s,5)else (s.deliver room 0 a (cn k x),0)
def Sy.do (s:Sy) (kind a b:Int) (k:Nat) (x:Tm k):Sy×Int:=if kind=1 then s.run n prog room a else if kind=2 then s.arrive room a b else if kind=3 then s.inject room a k x else (s,1)
def Sy.start (s:Sy) (nm:ByteArray) (k:Nat) (x:Tm k):Sy×Int:=if s.may 1=false then (s,2)else if mG n prog nm=false then (s,4)else if eD k x room nm≠0 then (s,eD k x room nm)else (s.add 0 nm (cn k x),0)
end
def Sy.more (s s':Sy):Prop:=∃l,s'.evs=s.evs++l
theorem Sy.more.refl (s:Sy):s.more s:=⟨[],by simp⟩
theorem Sy.more.trans {s t u:Sy} (h:s.more t) (k:t.more u):s.more u:=by
 obtain⟨l,h⟩:=h
 obtain⟨r,k⟩:=k
 exact⟨l++r,by rw[k,h,List.append_assoc]⟩
theorem kJ {α:Type} (f:Sy->α->Sy) (hf:∀(s:Sy) (x:α),s.more (f s x)):(l:List α)->(s:Sy)->s.more (l.foldl f s)
 | [],s=>Sy.more.refl s
 | x::l,s=>(hf s x).trans (kJ f hf l (f s x))
theorem yE (s:Sy) (wt:ByteArray) (a b:Int) (t:Tc):s.more (s.tell wt a b t):=⟨_,rfl⟩
theorem qD (s:Sy) (x how:Int):s.more (s.fin x how):=by
 have h:s.more {s.drop x how with bonds:=wo s.bonds (x::tJ s.bonds x (how==1))}:=⟨_,rfl⟩
 exact h.trans (kJ _ (fun s y=>⟨_,rfl⟩) _ _)
theorem pF (s:Sy) (room a b:Int) (t:Tc):s.more (s.deliver room a b t):=by
 unfold Sy.deliver
 split
 ·exact Sy.more.refl s
 ·split
  ·exact yE _ _ _ _ _
  ·split
   ·exact qD _ _ _
   ·split
    ·exact⟨[],by simp[Sy.put]⟩
    ·exact Sy.more.refl s
theorem Ho (s:Sy) (a b:Int) (t:Tc):s.more (s.send a b t):=by
 unfold Sy.send
 split
 ·exact⟨_,rfl⟩
 ·exact⟨_,rfl⟩
theorem Jc (s:Sy) (a b:Int):s.more (s.link a b):=by
 unfold Sy.link
 split
 ·exact⟨[],by simp⟩
 ·exact Sy.more.refl s
theorem BX (s:Sy) (a:Int) (tk:Tk):s.more (s.follow a tk):=by
 have h1:=kJ (fun(s:Sy) (x:Int×ByteArray×Tc)=>s.add a x.2.1 x.2.2) (fun s x=>⟨_,rfl⟩) tk.spawns s
 have h2:=h1.trans (kJ (fun(s:Sy) (x:Int×Tc)=>s.send a x.1 x.2) (fun s x=>Ho s a x.1 x.2) tk.sends _)
 have h3:=h2.trans (kJ (fun(s:Sy) (x:Int)=>s.link a x) (fun s x=>Jc s a x) tk.links _)
 unfold Sy.follow
 simp only
 split
 ·exact h3.trans (qD _ _ _)
 ·exact h3
theorem Nq (n:Nat) (prog:List (Bh (n+1))) (room:Int) (s:Sy) (kind a b:Int) (k:Nat) (x:Tm k):s.more (s.do n prog room kind a b k x).1:=by
 unfold Sy.do
 split
 ·unfold Sy.run
  split
  ·exact Sy.more.refl s
  ·split
   ·split
    ·exact Sy.more.refl s
    ·have h1:∀nm (v:ByteArray×Tc×List Tc) t,s.more ((s.put a v).tell nm a 0 t):=fun nm v t=>⟨_,rfl⟩
     simp only
     split
     ·exact(h1 _ _ _).trans (qD _ _ _)
     ·split
      ·exact(h1 _ _ _).trans (qD _ _ _)
      ·exact(h1 _ _ _).trans (BX _ _ _)
   ·exact Sy.more.refl s
 ·split
  ·unfold Sy.arrive
   split
   ·exact Sy.more.refl s
   ·rename_i t l _
    have h1:s.more {s with ways:=upd s.ways (a,b) l}:=⟨[],by simp⟩
    simp only
    split
    ·exact h1.trans (pF _ _ _ _ _)
    ·exact h1.trans (yE _ _ _ _ _)
  ·split
   ·unfold Sy.inject
    split
    ·exact Sy.more.refl s
    ·split
     ·exact Sy.more.refl s
     ·split
      ·exact Sy.more.refl s
      ·exact pF _ _ _ _ _
   ·exact Sy.more.refl s
variable {P:Program} {md:Region.Mode} {ops:Array Oper} {Q:Exit->Act->World->Prop} {S:World->Prop} {X:Nat}
theorem JN (i:Nat) {oi:Oper} {v:Value} {fuel:Nat} {listed:Array Bool} {a:Act} {w:World} (hi:ops[i]? =some oi) (hb:(Region.noSelect ops && Region.free md ops listed i && (Region.ready md ops listed).contains i && yO md ops X i)=true)
    (hQ:∀c a w,Q (.panic c) (a.put oi.dst v) w->Q (.panic c) a w) (hg:oi.guard=none) (hy:∀w,S w->(execOp a.eval oi).run P w=.ok (.value v) w) (hS:S w)
    (h:iP P md ops Q S X fuel (listed.setIfInBounds i true) (a.put oi.dst v) w):iP P md ops Q S X (fuel+1) listed a w:=by
 simp only[Bool.and_eq_true]at hb
 exact ay hi hb.1.1.1 hb.1.1.2 hb.1.2 hb.2 hQ hg hy hS h
theorem KL:(Tryz.prog.info? 58).map (fun i=>(i.zero,i.size,i.bytes))=some (some (.agg #[.string ⟨#[]⟩,.int .i64 0,.int .i64 0,.int .i64 0,.int .i64 0,.string ⟨#[]⟩,.slice none 0 0]),7,88):=by kernel_rfl
def OB (base:Nat) (wt:ByteArray) (a b:Int) (va:Option Addr) (L vc:Nat) (xs:List Value) (R:World->World->Int->Int->ByteArray->Option Addr->Nat->Nat->Prop) (w w5:World) (g c:Nat):Prop:=
 ∃W W4 y0 y1 y2 ya yl yc,Below w.heap.size w W/\Below W.heap.size W W4/\R W W4 y0 y1 y2 ya yl yc/\Kee (fun r=>(Value.slice va L vc).ownBlock=some r) W4 w5/\w5.ownsRow base 58 7 (.slice (some ⟨g,0,none⟩) (L+1) c) (L+1) (xs++ [.string wt,.int .i64 a,.int .i64 b,.int .i64 y0,.int .i64 y1,.string y2,.slice ya yl yc])/\((Value.slice va L vc).ownBlock=some g∨W4.heap.size<=g)
theorem EY (base sp:Nat) (wt:ByteArray) (a b x0 x1:Int) (x2:ByteArray) (xa:Option Addr) (xl xc:Nat) (va:Option Addr) (L vc:Nat) (xs:List Value) (R:World->World->Int->Int->ByteArray->Option Addr->Nat->Nat->Prop) (w:World) (hL:L<=100000) (hsp:sp<w.heap.size) (hbase:base<=w.heap.size) (HC:Hid (w.cell? ⟨sp,6,none⟩=some (.slice va L vc)/\w.frozen? ⟨sp,6,none⟩=false))
    (HR:Hid (w.ownsRow base 58 7 (.slice va L vc) L xs)) (HN:Hid ((Value.slice va L vc).ownBlock≠some sp)) (HCP:Hid (∀W,Below w.heap.size w W->Calls Tryz.prog 45 #[.agg #[.int .i64 x0,.int .i64 x1,.string x2,.slice xa xl xc]] W fun e w'=>∃y0 y1 y2 ya yl yc,e=.returned (.agg #[.int .i64 y0,.int .i64 y1,.string y2,.slice ya yl yc])/\Hid (Below W.heap.size W w'/\R W w' y0 y1 y2 ya yl yc))):
    Calls Tryz.prog 35 #[.pointer (some ⟨sp,0,none⟩),.string wt,.int .i64 a,.int .i64 b,.agg #[.int .i64 x0,.int .i64 x1,.string x2,.slice xa xl xc]] w fun e w'=>e=.returned (.tuple #[])/\Hid (∃g c w5,w'=w5.setCell ⟨sp,6,none⟩ (.slice (some ⟨g,0,none⟩) (L+1) c)/\OB base wt a b va L vc xs R w w5 g c):=by
 obtain⟨it,hit,htz0,htz1,htz2⟩:=info_parts KL
 have HIT:=hide (⟨hit,htz0,htz1,htz2⟩:_/\_/\_/\_)
 clear hit htz0 htz1 htz2
 go_enter Tryz.func35,Tryz.ntmps35
 go_upto_region 1 with fail
 generalize hw2:w.alloc _=w2
 have HS:Hid (Below w.heap.size w w2/\w2.heap[w.heap.size]? =some (.cells #[.int .i64 x0,.int .i64 x1,.string x2,.slice xa xl xc] 30)):=by
  rw[<-hw2]
  exact⟨(Below.refl _ _).alloc (Nat.le_refl _) _,heap_alloc_new _ _⟩
 clear hw2
 obtain⟨q,hq⟩:∃q,q=w.heap.size:=⟨_,rfl⟩
 rw[<-hq]
 rw[<-hq]at HS
 have HQW:=hide hq
 clear hq
 have HK:Hid (∀W:World,Below w2.heap.size w2 W->W.cell? ⟨sp,6,none⟩=some (.slice va L vc)/\W.cell? ⟨q,0,none⟩=some (.int .i64 x0)/\W.cell? ⟨q,1,none⟩=some (.int .i64 x1)/\W.cell? ⟨q,2,none⟩=some (.string x2)/\W.cell? ⟨q,3,none⟩=some (.slice xa xl xc)):=fun W h=>by
  have h1:=(h.block q (Array.getElem?_eq_some_iff.1 HS.out.2).1).trans HS.out.2
  have hb:=(HQW.out▸HS.out.1:Below w.heap.size w w2).trans (h.mono (HQW.out▸HS.out.1:Below w.heap.size w w2).size)
  exact⟨(hb.cell (p:=⟨sp,6,none⟩) hsp).trans HC.out.1,ae h1 0,ae h1 1,ae h1 2,ae h1 3⟩
 have HD0:Hid (Below w2.heap.size w2 w2.drew):=(Below.refl _ _).drew
 have HWQ:Hid (Below w.heap.size w w2):=by
  have h:=HS.out.1
  rw[HQW.out]at h
  exact h
 have hS0:=HK.out _ HD0.out
 refine wp_region_noPanic ?_
 refine iF (fun W=>W.cell? ⟨sp,6,none⟩=some (.slice va L vc)/\W.cell? ⟨q,0,none⟩=some (.int .i64 x0)/\W.cell? ⟨q,1,none⟩=some (.int .i64 x1)/\W.cell? ⟨q,2,none⟩=some (.string x2)/\W.cell? ⟨q,3,none⟩=some (.slice xa xl xc)) 15 (by kernel_rfl) ?_
 try simp only[List.size_toArray]
 refine JN 0 (v:= ?_) rfl (by kernel_rfl) (fun _ _ _ h=>h) rfl ?_ hS0 ?_
 rotate_left
 ·intro w' hw'
  try dsimp only at hw'
  go_simp
  try with_reducible rfl
 try simp only[Act.put,List.setIfInBounds_toArray]
 refine JN 1 (v:= ?_) rfl (by kernel_rfl) (fun _ _ _ h=>h) rfl ?_ hS0 ?_
 rotate_left
 ·intro w' hw'
  try dsimp only at hw'
  go_simp
  try with_reducible rfl
 try simp only[Act.put]
 refine JN 2 (v:= ?_) rfl (by kernel_rfl) (fun _ _ _ h=>h) rfl ?_ hS0 ?_
 rotate_left
 ·intro w' hw'
  try dsimp only at hw'
  go_simp
  try with_reducible rfl
 try simp only[Act.put]
 refine JN 3 (v:= ?_) rfl (by kernel_rfl) (fun _ _ _ h=>h) rfl ?_ hS0 ?_
 rotate_left
 ·intro w' hw'
  try dsimp only at hw'
  go_simp
  try with_reducible rfl
 try simp only[Act.put]
 refine JN 4 (v:= ?_) rfl (by kernel_rfl) (fun _ _ _ h=>h) rfl ?_ hS0 ?_
 rotate_left
 ·intro w' hw'
  try dsimp only at hw'
  go_simp
  try with_reducible rfl
 try simp only[Act.put]
 refine JN 5 (v:= ?_) rfl (by kernel_rfl) (fun _ _ _ h=>h) rfl ?_ hS0 ?_
 rotate_left
 ·intro w' hw'
  try dsimp only at hw'
  go_simp
  try with_reducible rfl
 try simp only[Act.put]
 refine JN 6 (v:= ?_) rfl (by kernel_rfl) (fun _ _ _ h=>h) rfl ?_ hS0 ?_
 rotate_left
 ·intro w' hw'
  try dsimp only at hw'
  go_simp
  try with_reducible rfl
 try simp only[Act.put]
 refine JN 7 (v:= ?_) rfl (by kernel_rfl) (fun _ _ _ h=>h) rfl ?_ hS0 ?_
 rotate_left
 ·intro w' hw'
  try dsimp only at hw'
  go_simp
  try with_reducible rfl
 try simp only[Act.put]
 refine JN 8 (v:= ?_) rfl (by kernel_rfl) (fun _ _ _ h=>h) rfl ?_ hS0 ?_
 rotate_left
 ·intro w' hw'
  try dsimp only at hw'
  go_simp
  try with_reducible rfl
 try simp only[Act.put]
 refine bG (i:=9) (by kernel_rfl) rfl rfl (fun K hK=> ?_) (by decide)
 go_simp
 refine(HCP.out _ (HWQ.out.trans (HD0.out.mono HWQ.out.size))).mono ?_
 rintro e w4 ⟨y0,y1,y2,ya,yl,yc,rfl,H4⟩
 have HB4:=hide (HD0.out.trans (H4.out.1.mono HD0.out.size))
 have hS4:=HK.out w4 HB4.out
 refine hK.out _ _ (fun _=>hS4) (fun _=> ?_)
 clear hK K
 try simp only[Act.put,List.setIfInBounds_toArray,List.set_cons_zero,List.set_cons_succ]
 refine JN 10 (v:= ?_) rfl (by kernel_rfl) (fun _ _ _ h=>h) rfl ?_ hS4 ?_
 rotate_left
 ·intro w' hw'
  try dsimp only at hw'
  go_simp
  try with_reducible rfl
 try simp only[Act.put,List.setIfInBounds_toArray]
 have HB4W:=hide (HWQ.out.trans (HB4.out.mono HWQ.out.size))
 obtain⟨o,ho⟩:∃o:Obj,o=.cells #[.string wt,.int .i64 a,.int .i64 b,.int .i64 y0,.int .i64 y1,.string y2,.slice ya yl yc] 58:=⟨_,rfl⟩
 have HD1:Hid (Below w4.heap.size w4 (w4.alloc o)):=(Below.refl _ _).alloc (Nat.le_refl _) o
 have HS1:=hide (HK.out _ (HB4.out.trans (HD1.out.mono HB4.out.size)))
 have HO1:Hid ((w4.alloc o).ownsRow base 58 7 (.slice va L vc) L xs):=aG HR.out (aj (HB4W.out.trans (HD1.out.mono HB4W.out.size)) fun _=>False) fun _ _ h=>h
 have HNB:Hid ((w4.alloc o).heap[w4.heap.size]? =some o):=heap_alloc_new w4 o
 have HZ1:Hid ((w4.alloc o).heap.size=w4.heap.size+1):=(show _=_ by simp)
 rw[ho]at HD1 HS1 HO1 HNB HZ1
 clear ho o
 refine bG (i:=11) (by kernel_rfl) rfl rfl (fun K hK=> ?_) (by decide)
 go_simp
 refine hK.out _ _ (fun _=>HS1.out) (fun hS1=> ?_)
 clear hK K
 try simp only[Act.put,List.setIfInBounds_toArray,List.set_cons_zero,List.set_cons_succ]
 refine bG (i:=12) (by kernel_rfl) rfl rfl (fun K hK=> ?_) (by decide)
 refine wp_append_lies _ _ _ 35 rfl base 58 it _ 7 88 Tryz.underlying35 HIT.out.1 HIT.out.2.1 HIT.out.2.2.1 HIT.out.2.2.2 rfl (by decide) (.slice va L vc) L xs rfl HO1.out ⟨w4.heap.size,0,none⟩ 1 1 [.string wt,.int .i64 a,.int .i64 b,.int .i64 y0,.int .i64 y1,.string y2,.slice ya yl yc] rfl rfl (World.news_of_block (cs:= #[.string wt,.int .i64 a,.int .i64 b,.int .i64 y0,.int .i64 y1,.string y2,.slice ya yl yc]) (t:=58) (fr:=(0,0)) HNB.out) (by simp[Value.oneCell']) (by decide) (by unfold maxLen;omega) (by omega) (by have:=HZ1.out;have:=HB4W.out.size;omega) _ rfl ?_
 intro g5 c5 w5 hown5 hgrow5 hat5 hlt5
 have HK5:Hid (Kee (fun r=>(Value.slice va L vc).ownBlock=some r) w4 w5):=Kee.trans (aj HD1.out _) (cO hgrow5) fun _ _ e=>e
 have HAT:Hid ((Value.slice va L vc).ownBlock=some g5∨w4.heap.size<=g5):=hat5.imp id fun e=>by have:=HZ1.out;omega
 have HO5:=hide hown5
 have HC5:Hid ((w5.cell? ⟨sp,6,none⟩=some (.slice va L vc)/\w5.cell? ⟨q,0,none⟩=some (.int .i64 x0)/\w5.cell? ⟨q,1,none⟩=some (.int .i64 x1)/\w5.cell? ⟨q,2,none⟩=some (.string x2)/\w5.cell? ⟨q,3,none⟩=some (.slice xa xl xc))/\w5.frozen? ⟨sp,6,none⟩=false):=by
  have hq1:¬(Value.slice va L vc).ownBlock=some q:=fun e=>by
   have:=(HR.out.lt q e).2
   have:=HQW.out
   omega
  have hq4:q<w4.heap.size:=by
   have:=HB4.out.size
   have:=(Array.getElem?_eq_some_iff.1 HS.out.2).1
   omega
  have hs4:sp<w4.heap.size:=Nat.lt_of_lt_of_le hsp HB4W.out.size
  obtain⟨s0,s1,s2,s3,s4⟩:=hS4
  have k:=fun j=>HK5.out.cell j hq4 hq1
  refine⟨⟨(HK5.out.cell 6 hs4 HN.out).trans s0,(k 0).trans s1,(k 1).trans s2,(k 2).trans s3,(k 3).trans s4⟩, ?_⟩
  have hf:=HC.out.2
  unfold World.frozen? at hf ⊢
  rw[HK5.out.block sp hs4 HN.out,HB4W.out.block sp hsp]
  exact hf
 clear hown5 hgrow5 hat5 hlt5
 refine hK.out _ _ (fun _=>HC5.out.1) (fun hS3=> ?_)
 clear hK K
 try simp only[Act.put,List.setIfInBounds_toArray]
 refine bG (i:=13) (by kernel_rfl) rfl rfl (fun K hK=> ?_) (by decide)
 go_simp
 refine hK.out _ _ (fun _=>hS3) (fun _=> ?_)
 clear hK K
 try simp only[Act.put,List.setIfInBounds_toArray,List.set_cons_zero,List.set_cons_succ]
 refine JN 14 (v:= ?_) rfl (by kernel_rfl) (fun _ _ _ h=>h) rfl ?_ hS3 ?_
 rotate_left
 ·intro w' hw'
  try dsimp only at hw'
  go_simp
  try with_reducible rfl
 try simp only[Act.put,List.setIfInBounds_toArray]
 have cf6:=HC5.out.2
 have cc6:=HC5.out.1.1
 refine iE (by kernel_rfl) rfl rfl (by kernel_rfl) (fun K hK=> ?_)
 go_simp
 refine hK.out _ _ (NoPanic.normal ?_)
 clear hK K
 try simp only[Act.put,List.setIfInBounds_toArray,List.set_cons_zero,List.set_cons_succ]
 have HT:Hid (OB base wt a b va L vc xs R w w5 g5 c5):=⟨w2.drew,w4,y0,y1,y2,ya,yl,yc,HWQ.out.trans (HD0.out.mono HWQ.out.size),H4.out.1,H4.out.2,HK5.out,HO5.out,HAT.out⟩
 clear HK HCP HC5 HO5 HAT HK5 H4 hS0 hS3 hS1 hS4
 exact bodyPost_end (v:=.tuple #[]) (by simp[results]) rfl ⟨rfl,g5,c5,w5,rfl,HT.out⟩
def uE (b:Nat):Value:=.pointer (some ⟨b,0,none⟩)
def IM (w:World) (mb:Nat) (l:List (Int×Nat)):Prop:=∃es clock,w.heap[mb]? =some (.map es clock)/\es.toList.map (fun e=>(e.key,e.val))=l.map fun p=>(.int .i64 p.1,uE p.2)
theorem FC (k:Int):(es:List MapEntry)->(l:List (Int×Nat))->(i:Nat)->es.map (fun e=>(e.key,e.val))=l.map (fun p=>(.int .i64 p.1,uE p.2))->
    Instr.findNow (.int .i64) (.int .i64 k) es i=some ((l.findIdx? (fun p=>p.1==k)).map fun j=>(i+j,uE ((l.find? fun p=>p.1==k).map (·.2) |>.getD 0)))
 | [],[],_,_=>rfl
 | [],_::_,_,h=>by simp at h
 | _::_,[],_,h=>by simp at h
 | e::es,p::l,i,h=>by
  rw[List.map_cons,List.map_cons,List.cons.injEq]at h
  obtain⟨h1,h2⟩:=h
  have hk:e.key=.int .i64 p.1:=(Prod.mk.inj h1).1
  have hv:e.val=uE p.2:=(Prod.mk.inj h1).2
  have ih:=FC k es l (i+1) h2
  by_cases hp:p.1=k
  ·have hb:(k==p.1)=true:=by simp[hp]
   simp[Instr.findNow,Instr.sameNow,hk,hv,hp,List.findIdx?_cons]
  ·have hb:(k==p.1)=false:=by simpa using fun e=>hp e.symm
   have hb':(p.1==k)=false:=by simpa using hp
   rw[Instr.findNow,hk]
   simp only[Instr.sameNow,if_true,hb]
   rw[ih]
   simp only[List.findIdx?_cons,List.find?_cons,hb']
   congr 1
   cases List.findIdx? (fun p=>p.1==k) l with
   | none=>rfl
   | some j=>simp;omega
def bU (l:List (Int×Nat)) (k:Int):Option Nat:=(l.find? fun p=>p.1==k).map (·.2)
theorem lG {w:World} {es:Array MapEntry} {l:List (Int×Nat)} (k:Int) (h:es.toList.map (fun e=>(e.key,e.val))=l.map fun p=>(.int .i64 p.1,uE p.2)):(Instr.findKey 3 (.int .i64 k) es.toList).run Tryz.prog w=.ok ((l.findIdx? (fun p=>p.1==k)).map fun j=>(j,uE ((bU l k).getD 0))) w:=by
 have hp:=Tryz.underlying3
 have h1:=FC k es.toList l 0 h
 simp only[Nat.zero_add]at h1
 simp[Instr.findKey,run_underlying hp,Result.andThen,h1,bU]
theorem jw (w:World) (em:Bool) (k:Int):(Instr.checkKey em 10000 3 (.int .i64 k)).run Tryz.prog w=.ok () w:=by
 have hp:=Tryz.underlying3
 unfold Instr.checkKey
 simp[run_underlying hp,Result.andThen]
theorem FT {l:List (Int×Nat)} {k:Int} (h:bU l k=none):l.findIdx? (fun p=>p.1==k)=none:=by
 unfold bU at h
 rw[List.findIdx?_eq_none_iff]
 intro p hp
 rw[Option.map_eq_none_iff,List.find?_eq_none]at h
 simpa using h p hp
theorem M4 {l:List (Int×Nat)} {k:Int} {b:Nat} (h:bU l k=some b):∃j,l.findIdx? (fun p=>p.1==k)=some j:=by
 cases e:l.findIdx? (fun p=>p.1==k)with
 | some j=>exact⟨j,rfl⟩
 | none=>
  unfold bU at h
  rw[List.findIdx?_eq_none_iff]at e
  have:l.find? (fun p=>p.1==k)=none:=List.find?_eq_none.2 fun p hp=>by simpa using e p hp
  rw[this]at h
  cases h
theorem IM.look {w:World} {mb:Nat} {l:List (Int×Nat)} (h:IM w mb l) (k:Int) (c:Bool):
    (bU l k=none->(Instr.lookup 64 (.map (some mb)) (.int .i64 k) c).run Tryz.prog w=.ok (if c then .tuple #[.pointer none,.bool false]else .pointer none) w)/\
    ∀b,bU l k=some b->(Instr.lookup 64 (.map (some mb)) (.int .i64 k) c).run Tryz.prog w=.ok (if c then .tuple #[uE b,.bool true]else uE b) w:=by
 obtain⟨es,clock,h1,h2⟩:=h
 have hm:=Tryz.underlying64
 have hz:(zeroValue 83).run Tryz.prog w=.ok (.pointer none) w:=by kernel_rfl
 have hf:=lG (w:=w) k h2
 refine⟨fun e=> ?_,fun b e=> ?_⟩
 ·rw[FT e]at hf
  simp[Instr.lookup,run_underlying hm,MapKept.run_getObj_map h1,jw,hf,Result.andThen,hz]
 ·obtain⟨j,hj⟩:=M4 e
  rw[hj]at hf
  simp[Instr.lookup,run_underlying hm,MapKept.run_getObj_map h1,jw,hf,Result.andThen,e]
theorem Ew (w:World) (k:Int) (c:Bool):(Instr.lookup 64 (.map none) (.int .i64 k) c).run Tryz.prog w=.ok (if c then .tuple #[.pointer none,.bool false]else .pointer none) w:=by
 have hm:=Tryz.underlying64
 have hz:(zeroValue 83).run Tryz.prog w=.ok (.pointer none) w:=by kernel_rfl
 have hf:=lG (w:=w) (es:= #[]) (l:=[]) k rfl
 simp[Instr.lookup,run_underlying hm,jw,hf,Result.andThen,hz]
theorem IM.put {w:World} {mb:Nat} {l:List (Int×Nat)} (h:IM w mb l) {k:Int} (hk:bU l k=none) (b:Nat):
    ∃w',(Instr.mapUpdate 64 (.map (some mb)) (.int .i64 k) (uE b)).run Tryz.prog w=.ok () w'/\IM w' mb (l++ [(k,b)])/\Kee (fun q=>q=mb) w w'/\w'.heap.size=w.heap.size:=by
 obtain⟨es,clock,h1,h2⟩:=h
 have hm:=Tryz.underlying64
 have hf:=lG (w:=w) k h2
 rw[FT hk]at hf
 refine⟨_,by simp[Instr.mapUpdate,run_underlying hm,MapKept.run_getObj_map h1,jw,hf,MapKept.run_setObj_map _ h1,Result.andThen];rfl,⟨_,_,(heap_set h1).1, ?_⟩, ?_, ?_⟩
 ·simp[h2]
 ·exact⟨rfl,rfl,rfl,by simp,fun q _ hq=>(heap_set h1).2 q hq⟩
 ·simp
theorem Ci {α β:Type} (f:α->β) (l:List α) (i:Nat):(l.map f).eraseIdx i=(l.eraseIdx i).map f:=by
 simp[List.eraseIdx_eq_take_drop_succ,List.map_take,List.map_drop]
theorem IM.del {w:World} {mb:Nat} {l:List (Int×Nat)} (h:IM w mb l) (k:Int):
    ∃w',(∀ty,(Builtin.delete_ #[64,3] ty #[.map (some mb),.int .i64 k]).run Tryz.prog w=.ok (.tuple #[]) w')/\IM w' mb (l.eraseP fun p=>p.1==k)/\Kee (fun q=>q=mb) w w'/\w'.heap.size=w.heap.size:=by
 obtain⟨es,clock,h1,h2⟩:=h
 have hm:=Tryz.underlying64
 have hf:=lG (w:=w) k h2
 cases e:l.findIdx? (fun p=>p.1==k)with
 | none=>
  rw[e]at hf
  refine⟨{w with heap:=w.heap.setIfInBounds mb (.map es clock)},fun ty=>by simp[Builtin.delete_,run_underlying hm,MapKept.run_getObj_map h1,jw,hf,MapKept.run_setObj_map _ h1,Result.andThen],⟨_,_,(heap_set h1).1, ?_⟩, ?_, ?_⟩
  ·rw[List.eraseP_of_forall_not fun p hp=>by have:=List.findIdx?_eq_none_iff.1 e p hp;rw[this];decide]
   exact h2
  ·exact⟨rfl,rfl,rfl,by simp,fun q _ hq=>(heap_set h1).2 q hq⟩
  ·simp
 | some j=>
  rw[e]at hf
  refine⟨{w with heap:=w.heap.setIfInBounds mb (.map (es.eraseIdxIfInBounds j) clock)},fun ty=>by simp[Builtin.delete_,run_underlying hm,MapKept.run_getObj_map h1,jw,hf,MapKept.run_setObj_map _ h1,Result.andThen],⟨_,_,(heap_set h1).1, ?_⟩, ?_, ?_⟩
  ·have hj:j<es.size:=by
     have h5:=(List.findIdx?_eq_some_iff_getElem.1 e).1
     have h6:=congrArg List.length h2
     simp at h6
     omega
   rw[List.eraseP_eq_eraseIdx,e]
   simp only[Array.eraseIdxIfInBounds,hj,dite_true,Array.toList_eraseIdx]
   rw[<-Ci,<-Ci,h2]
  ·exact⟨rfl,rfl,rfl,by simp,fun q _ hq=>(heap_set h1).2 q hq⟩
  ·simp
theorem IM.len {w:World} {mb:Nat} {l:List (Int×Nat)} (h:IM w mb l) (ty:TypeId):(Builtin.len_ #[64] ty #[.map (some mb)]).run Tryz.prog w=.ok (.int .i64 l.length) w:=by
 obtain⟨es,clock,h1,h2⟩:=h
 have hm:=Tryz.underlying64
 have hl:es.size=l.length:=by
  have:=congrArg List.length h2
  simpa using this
 simp[Builtin.len_,run_underlying hm,MapKept.run_getObj_map h1,Result.andThen,hl]
 unfold goInt
 go_num
theorem IM.kept {w w':World} {mb:Nat} {l:List (Int×Nat)} (h:IM w mb l) (hb:w'.heap[mb]? =w.heap[mb]?):IM w' mb l:=by
 obtain⟨es,clock,h1,h2⟩:=h
 exact⟨es,clock,hb.trans h1,h2⟩
theorem IM.new (w:World):IM (w.alloc (.map #[] 0)) w.heap.size []:=⟨#[],0,heap_alloc_new _ _,rfl⟩
structure SyP where
 lo:Nat
 b:Nat
 room:Int
 n:Nat
 prog:List (Bh (n+1))
 pa:Option Addr
 pc:Nat
structure SyD where
 ow:Nat->Int
 po:Option Nat
 l:List (Int×Nat)
 wo:Option Nat
 wn:Nat
 f:Int×Int->List Tc
 sl:Int×Int->Value
 bo:Option Nat
 bn:Nat
 ev:Value
 es:List (ByteArray×Int×Int×Tc)
 k:Nat
def cZ (p:SyP) (s:Sy) (d:SyD):Array Value:= #[.slice p.pa p.prog.length p.pc,.int .i64 p.room,.int .i64 s.last,.map d.po,.map d.wo,.map d.bo,d.ev]
def Ay (p:SyP) (s:Sy) (d:SyD):BL:=⟨p.b,4,cZ p s d,72⟩
def Ot (p:SyP) (s:Sy) (d:SyD):BL:=⟨p.b,5,cZ p s d,72⟩
def Jt (e:ByteArray×Int×Int×Tc):List Value:=[.string e.1,.int .i64 e.2.1,.int .i64 e.2.2.1,.int .i64 e.2.2.2.1.1,.int .i64 e.2.2.2.1.2.1,.string e.2.2.2.1.2.2,.slice e.2.2.2.2.1.1 e.2.2.2.2.2.length e.2.2.2.2.1.2]
def xy (t:Tc):Prop:=aQ 13 t=0∨(t.1=(0,0,⟨#[]⟩)/\t.2.2=[])
structure SyAt (p:SyP) (s:Sy) (d:SyD) (w:World):Prop where
 low:∀b,d.ow b≠0->p.lo<=b/\b<w.heap.size
 box:w.heap[p.b]? =some (.cells (cZ p s d) 72)
 own:d.ow p.b=-5
 pg:(PgIn (p.n+1) w.heap.size w p.pa p.prog/\tF (iU (p.n+1) fun b=>d.ow b=-4) (fun b=>d.ow b=-4) p.pa p.prog)/\(p.prog.length<=p.pc/\p.pc<=maxLen/\lM p.n p.prog=0/\(nodes (p.n+6) (bM p.n p.prog)).length<=2097152)
 pm:(d.po=none/\d.l=[])∨∃mb,d.po=some mb/\d.ow mb=-5/\mb≠p.b/\IM w mb d.l
 keys:d.l.map (·.1)=s.ps.map (·.1)/\(s.ps.map (·.1)).Nodup/\(∀q∈s.ps,1<=q.1/\q.1<=s.last)/\0<=s.last/\s.last<=90/\s.ps.length<=12
 ps:∀k b,bU d.l k=some b->∃nm cs cms,s.get k=some (nm,cs,cms)/\P1 p.lo b nm p.room cs cms (d.k+201) (fun q=>d.ow q=k) w/\cms.length<=20
 wy:WyAt p.lo (Ay p s d) d.wo d.wn 13 d.f d.sl w/\(∀b,pW (Ay p s d) d.wo d.sl b->b=p.b∨d.ow b=-1)/\(∀k,(d.f k).map (cn 13)=s.ways k)/\(∀k,(d.f k).length<=20)/\∀k,∀y∈d.f k,aQ 13 y=0/\av 13 y=true/\In w.heap.size w 13 y/\Off (fun b=>d.ow b=-1/\¬pW (Ay p s d) d.wo d.sl b) 13 y
 bd:BdAt p.lo (Ot p s d) d.bo d.bn s.bonds w/\OKg s.bonds/\∀b,d.bo=some b->d.ow b=-2
 evr:w.ownsRow p.lo 58 7 d.ev d.es.length (d.es.flatMap Jt)/\∀b,d.ev.ownBlock=some b->d.ow b=-3
 evt:d.es.map (fun e=>(e.1,e.2.1,e.2.2.1,cn 13 e.2.2.2))=s.evs/\∀e∈d.es,(In w.heap.size w 13 e.2.2.2/\Off (fun b=>d.ow b=-3/\d.ev.ownBlock≠some b) 13 e.2.2.2)/\xy e.2.2.2
theorem dV {S D:Nat->Prop} {w w':World} (hk:Kee S w w') (hD:∀b,D b->¬S b) {n:Nat} {x:Tm n} (h:In w.heap.size w n x/\Off D n x):In w'.heap.size w' n x/\Off D n x:=
 ⟨(In.off (P:=fun b=>D b/\b<w.heap.size) (fun b q=>hk.block b q.2 (hD b q.1)) (In.offB h.2 h.1) h.1).mono hk.size,h.2⟩
theorem IA {l:List (Int×Nat)} {k:Int} {b:Nat} (h:bU l k=some b):(k,b)∈l:=by
 unfold bU at h
 cases e:l.find? (fun p=>p.1==k)with
 | none=>rw[e]at h;cases h
 | some p=>
  rw[e]at h
  have h1:=List.mem_of_find?_eq_some e
  have h2:=List.find?_some e
  simp at h h2
  subst h h2
  exact h1
theorem SyAt.key {p:SyP} {s:Sy} {d:SyD} {w:World} (h:SyAt p s d w) {k:Int} {b:Nat} (hb:bU d.l k=some b):1<=k/\k<=s.last:=by
 have h1:k∈d.l.map (·.1):=List.mem_map.2 ⟨_,IA hb,rfl⟩
 rw[h.keys.1]at h1
 obtain⟨q,hq,rfl⟩:=List.mem_map.1 h1
 exact h.keys.2.2.1 q hq
theorem WyAt.turn {base:Nat} {p p':BL} {mo:Option Nat} {n N:Nat} {f:Int×Int->List (Tm N)} {sl:Int×Int->Value} {w w':World} (h:WyAt base p mo n N f sl w) {S:Nat->Prop} (hk:Kee S w w') (hS:∀b,pW p mo sl b->b≠p.b->¬S b) (hp:p'.b=p.b) (hB:BxM p' mo w'):WyAt base p' mo n N f sl w':=by
 refine⟨by rw[hp];exact h.1,hB, ?_⟩
 rcases h.2.2 with e|⟨mb,rfl,hg⟩
 ·exact Or.inl e
 ·refine Or.inr ⟨mb,rfl,hg.kee hk fun b hb=>hS b (FX hb) fun e=> ?_⟩
  rcases hb with rfl|⟨k,h1,h2⟩
  ·exact wh h e.symm
  ·exact zJ h h1 (by rw[h2,e])
theorem BdAt.turn {base:Nat} {p p':BL} {mo:Option Nat} {n:Nat} {g:Int×Int->Bool} {w w':World} (h:BdAt base p mo n g w) {S:Nat->Prop} (hk:Kee S w w') (hS:∀b:Nat,mo=Option.some b->¬S b) (hp:p'.b=p.b) (hB:BxM p' mo w'):BdAt base p' mo n g w':=by
 refine⟨by rw[hp];exact h.1,hB, ?_⟩
 rcases h.2.2 with e|⟨mb,rfl,hs⟩
 ·exact Or.inl e
 ·exact Or.inr ⟨mb,rfl,hs.kee hk (hS mb rfl)⟩
section
variable {p:SyP} {s:Sy} {d:SyD} {w w':World} {ow:Nat->Int} {S:Nat->Prop}
theorem SyAt.pgK (h:SyAt p s d w) (hk:Kee S w w') (hS:∀b,d.ow b=-4->¬S b) (ho:∀b,d.ow b≠0->ow b=d.ow b):PgIn (p.n+1) w'.heap.size w' p.pa p.prog/\tF (iU (p.n+1) fun b=>ow b=-4) (fun b=>ow b=-4) p.pa p.prog:=by
 have L:=bi (dw (p.n+1)) 2 (nK (p.n+1)) p.pa
 exact⟨L.2.2.2.1 _ _ _ _ hk.size (L.2.2.1 _ _ _ w' _ (fun b q=>hk.block b q.2 (hS b q.1)) (L.2.1 _ _ _ _ h.pg.1.2 h.pg.1.1) h.pg.1.1),L.1 _ _ _ (fun b q=>(ho b (by rw[q];decide)).trans q) h.pg.1.2⟩
theorem SyAt.pmK (h:SyAt p s d w) (hk:Kee S w w') (hS:∀b,d.ow b=-5->b≠p.b->¬S b) (ho:∀b,d.ow b≠0->ow b=d.ow b):(d.po=none/\d.l=[])∨∃mb,d.po=some mb/\ow mb=-5/\mb≠p.b/\IM w' mb d.l:=by
 rcases h.pm with e|⟨mb,e1,e2,e3,e4⟩
 ·exact Or.inl e
 ·exact Or.inr ⟨mb,e1,(ho mb (by rw[e2];decide)).trans e2,e3,e4.kept (hk.block mb (h.low mb (by rw[e2];decide)).2 (hS mb e2 e3))⟩
theorem SyAt.psK (h:SyAt p s d w) (hk:Kee S w w') {k:Int} {b j:Nat} (hj:d.k<=j) (hS:∀b,d.ow b=k->¬S b) (ho:∀b,d.ow b≠0->ow b=d.ow b) (hl:∀b,ow b≠0->p.lo<=b/\b<w'.heap.size) (hb:bU d.l k=some b):∃nm cs cms,s.get k=some (nm,cs,cms)/\P1 p.lo b nm p.room cs cms (j+201) (fun q=>ow q=k) w'/\cms.length<=20:=by
 obtain⟨nm,cs,cms,h1,h2,h3⟩:=h.ps k b hb
 have hk1:=(h.key hb).1
 exact⟨nm,cs,cms,h1,(h2.kept (S:=S) ⟨hk.os,hk.tape,hk.output,hk.size,hk.block⟩ hS).mono (fun b z=>(ho b (by rw[z];omega)).trans z) (Nat.add_le_add_right hj 201) fun b z=>hl b (by rw[z];omega),h3⟩
theorem SyAt.wyK (h:SyAt p s d w) (hk:Kee S w w') (hS:∀b,d.ow b=-1->¬S b) (ho:∀b,d.ow b≠0->ow b=d.ow b) {q:BL} (hp:q.b=p.b) (hB:BxM q d.wo w'):WyAt p.lo q d.wo d.wn 13 d.f d.sl w'/\(∀b,pW q d.wo d.sl b->b=p.b∨ow b=-1)/\∀k,∀y∈d.f k,aQ 13 y=0/\av 13 y=true/\In w'.heap.size w' 13 y/\Off (fun b=>ow b=-1/\¬pW q d.wo d.sl b) 13 y:=by
 have hM:∀b,pW q d.wo d.sl b ↔ pW (Ay p s d) d.wo d.sl b:=fun b=>by
  unfold pW
  rw[hp]
  exact Iff.rfl
 refine⟨h.wy.1.turn hk (fun b z hne=> ?_) hp hB,fun b z=>(h.wy.2.1 b ((hM b).1 z)).imp id fun e=>(ho b (by rw[e];decide)).trans e,fun k y hy=> ?_⟩
 ·rcases h.wy.2.1 b z with e|e
  ·exact absurd e hne
  ·exact hS b e
 ·obtain⟨y1,y2,y3⟩:=h.wy.2.2.2.2 k y hy
  have y4:=dV hk (fun b q=>hS b q.1) y3
  exact⟨y1,y2,y4.1,y4.2.mono fun b v=>⟨(ho b (by rw[v.1];decide)).trans v.1,fun z=>v.2 ((hM b).1 z)⟩⟩
theorem SyAt.bdK (h:SyAt p s d w) (hk:Kee S w w') (hS:∀b,d.ow b=-2->¬S b) (ho:∀b,d.ow b≠0->ow b=d.ow b) {q:BL} (hp:q.b=p.b) (hB:BxM q d.bo w'):BdAt p.lo q d.bo d.bn s.bonds w'/\OKg s.bonds/\∀b,d.bo=some b->ow b=-2:=
 ⟨h.bd.1.turn hk (fun b e=>hS b (h.bd.2.2 b e)) hp hB,h.bd.2.1,fun b e=>(ho b (by rw[h.bd.2.2 b e];decide)).trans (h.bd.2.2 b e)⟩
theorem SyAt.evK (h:SyAt p s d w) (hk:Kee S w w') (hS:∀b,d.ow b=-3->¬S b) (ho:∀b,d.ow b≠0->ow b=d.ow b):(w'.ownsRow p.lo 58 7 d.ev d.es.length (d.es.flatMap Jt)/\∀b,d.ev.ownBlock=some b->ow b=-3)/\∀e∈d.es,(In w'.heap.size w' 13 e.2.2.2/\Off (fun b=>ow b=-3/\d.ev.ownBlock≠some b) 13 e.2.2.2)/\xy e.2.2.2:=by
 refine⟨⟨aG h.evr.1 hk fun b q=>hS b (h.evr.2 b q),fun b q=>(ho b (by rw[h.evr.2 b q];decide)).trans (h.evr.2 b q)⟩,fun e he=>⟨?_,(h.evt.2 e he).2⟩⟩
 have y4:=dV hk (fun b q=>hS b q.1) (h.evt.2 e he).1
 exact⟨y4.1,y4.2.mono fun b q=>⟨(ho b (by rw[q.1];decide)).trans q.1,q.2⟩⟩
theorem oW {d:SyD} {w:World} (h:w.heap[p.b]? =some (.cells (cZ p s d) 72)):BxM (Ay p s d) d.wo w/\BxM (Ot p s d) d.bo w:=by
 refine⟨⟨⟨by simp[Ay,cZ],by simp[Ay]⟩, ?_⟩,⟨⟨by simp[Ot,cZ],by simp[Ot]⟩, ?_⟩⟩
 ·simp[Ay,cZ,h]
 ·simp[Ot,cZ,h]
theorem SyAt.kept (h:SyAt p s d w) (hk:Kee S w w') (hS:∀b,S b->d.ow b=0):SyAt p s d w':=by
 have hn:∀b,d.ow b≠0->¬S b:=fun b q z=>q (hS b z)
 have ho:∀b,d.ow b≠0->d.ow b=d.ow b:=fun _ _=>rfl
 have hb:w'.heap[p.b]? =some (.cells (cZ p s d) 72):=(hk.block p.b (Array.getElem?_eq_some_iff.1 h.box).1 (hn p.b (by rw[h.own];decide))).trans h.box
 have hl:∀b,d.ow b≠0->p.lo<=b/\b<w'.heap.size:=fun b q=>⟨(h.low b q).1,Nat.lt_of_lt_of_le (h.low b q).2 hk.size⟩
 have t:∀{t:Int},t≠0->∀b,d.ow b=t->¬S b:=fun ht b e=>hn b (by rw[e];exact ht)
 obtain⟨y1,y2,y3⟩:=h.wyK hk (t (by decide)) ho rfl (oW hb).1
 obtain⟨e1,e2⟩:=h.evK hk (t (by decide)) ho
 exact⟨hl,hb,h.own,⟨h.pgK hk (t (by decide)) ho,h.pg.2⟩,h.pmK hk (fun b e _=>t (by decide) b e) ho,h.keys,fun k b q=>h.psK hk (Nat.le_refl _) (t (by have:=(h.key q).1;omega)) ho hl q,⟨y1,y2,h.wy.2.2.1,h.wy.2.2.2.1,y3⟩,h.bdK hk (t (by decide)) ho rfl (oW hb).2,e1,h.evt.1,e2⟩
theorem SyAt.later (h:SyAt p s d w) (hb:Below w.heap.size w w'):SyAt p s d w':=h.kept (aj hb fun _=>False) fun _ q=>q.elim
end
def Qo (x0 x1:Int) (x2:ByteArray) (xa:Option Addr) (xl xc:Nat) (t:Tc) (w:World):Prop:=
 ∀W,Below w.heap.size w W->Calls Tryz.prog 45 #[.agg #[.int .i64 x0,.int .i64 x1,.string x2,.slice xa xl xc]] W fun e w'=>∃y0 y1 y2 ya yl yc,e=.returned (.agg #[.int .i64 y0,.int .i64 y1,.string y2,.slice ya yl yc])/\Hid (Below W.heap.size W w'/\∃y:Tc,(y.1=(y0,y1,y2)/\y.2.1=(ya,yc)/\y.2.2.length=yl)/\(In w'.heap.size w' 13 y/\Off (fun q=>W.heap.size<=q) 13 y)/\cn 13 y=t/\xy y)
theorem jm {m:Nat} {x:Tm (m+1)} {w:World} (hx:In w.heap.size w (m+1) x) (hc:aQ (m+1) x=0):Qo x.1.1 x.1.2.1 x.1.2.2 x.2.1.1 x.2.2.length x.2.1.2 (cn (m+1) x) w:=fun W hW=>by
 have hr:ai ⟨m+1,x⟩:=ax.2 (aN.1 hc).1
 refine(fV (m+1) x W.heap.size W ((hx.below hW).mono hW.size) (Nat.le_refl _) hr).mono ?_
 rintro e w' ⟨y,rfl,H⟩
 obtain⟨h1,h2,h3,h4⟩:=H.out
 have hcy:aQ (m+1) y=0:=(aX h4).trans hc
 have hry:ai ⟨m+1,y⟩:=ax.2 (aN.1 hcy).1
 have hd:dU (m+1) y<13:=by have:=(aN.1 hcy).2.1;omega
 have hl:=iH 13 (m+1) y hry hd
 refine⟨y.1.1,y.1.2.1,y.1.2.2,y.2.1.1,y.2.2.length,y.2.1.2,rfl,h1,lift 13 (m+1) y,⟨rfl,rfl,by simp[lift]⟩,⟨qN 13 (m+1) y _ _ hry hd h2,ut 13 (m+1) y _ hry hd h3⟩,(fQ hl).trans (fQ h4),Or.inl ((aX hl).trans hcy)⟩
theorem KH (w:World):Qo 0 0 ⟨#[]⟩ none 0 0 MB w:=fun W hW=>by
 refine(qX 12 0 0 ⟨#[]⟩ none 0 0 [] W (by decide) fun w1 h1=> ?_).mono ?_
 ·refine(jV none 0 w1).mono ?_
  rintro e w' ⟨rfl,rfl⟩
  exact⟨none,0,[],rfl,Below.refl _ _,rfl,Nat.le_refl _,Nat.zero_le _,rfl,Or.inl rfl⟩
 ·rintro e w' ⟨a',c',l,rfl,H⟩
  obtain⟨h1,h2,h3,h4,_⟩:=H.out
  obtain rfl:l=[]:=List.eq_nil_of_length_eq_zero h2
  exact⟨0,0,⟨#[]⟩,a',0,c',rfl,h1,((0,0,⟨#[]⟩),(a',c'),[]),⟨rfl,rfl,rfl⟩,⟨⟨⟨show bR 0 by unfold bR;decide,show bR 0 by unfold bR;decide,show (0:Nat)<=maxLen from Nat.zero_le _,Nat.zero_le _,h4⟩,Or.inl rfl⟩,Or.inl rfl⟩,rfl,Or.inr ⟨rfl,rfl⟩⟩
def FI (d:SyD) (w w':World) (t:Int) (q:Nat):Int:=if w.heap.size<=q/\q<w'.heap.size then t else d.ow q
theorem uk {p:SyP} {s:Sy} {d:SyD} {w w':World} {t:Int} (h:SyAt p s d w) (hs:w.heap.size<=w'.heap.size) (hlo:p.lo<=w.heap.size):∀b,FI d w w' t b≠0->p.lo<=b/\b<w'.heap.size:=fun b q=>by
 unfold FI at q
 split at q
 ·omega
 ·have:=h.low b q
  omega
theorem uo {p:SyP} {s:Sy} {d:SyD} {w w':World} {t:Int} (h:SyAt p s d w):∀b,d.ow b≠0->FI d w w' t b=d.ow b:=fun b q=>by
 have:=(h.low b q).2
 exact if_neg (by omega)
theorem SyAt.lo {p:SyP} {s:Sy} {d:SyD} {w:World} (h:SyAt p s d w):p.lo<=w.heap.size/\p.b<w.heap.size:=by
 have:=h.low p.b (by rw[h.own];decide)
 omega
def SyTells (p:SyP) (s:Sy) (d:SyD) (wt:ByteArray) (a b:Int) (t:Tc) (w w':World):Prop:=
 ∃v y,SyAt p (s.tell wt a b t) {d with ow:=FI d w w' (-3),ev:=v,es:=d.es++ [(wt,a,b,y)]} w'/\Kee (fun q=>q=p.b∨d.ow q=-3) w w'
theorem SyAt.tell {p:SyP} {s:Sy} {d:SyD} {w:World} (h:SyAt p s d w) (wt:ByteArray) (a b x0 x1:Int) (x2:ByteArray) (xa:Option Addr) (xl xc:Nat) (t:Tc) (hc:Qo x0 x1 x2 xa xl xc t w) (hL:d.es.length<=100000):
    Calls Tryz.prog 35 #[.pointer (some ⟨p.b,0,none⟩),.string wt,.int .i64 a,.int .i64 b,.agg #[.int .i64 x0,.int .i64 x1,.string x2,.slice xa xl xc]] w fun e w'=>e=.returned (.tuple #[])/\Hid (SyTells p s d wt a b t w w'):=by
 obtain⟨hlo,hsb⟩:=h.lo
 obtain⟨va,vc,hev⟩:∃va vc,d.ev=.slice va d.es.length vc:=by
  rcases h.evr.1.2 with⟨e,e0⟩|⟨g,c,cur,e,_⟩
  ·exact⟨none,0,by rw[e,e0]⟩
  ·exact⟨_,c,e⟩
 have hbx:=h.box
 have hne:d.ev.ownBlock≠some p.b:=fun e=>by
  have h1:=h.evr.2 _ e
  rw[h.own]at h1
  cases h1
 have hrow:=h.evr.1
 rw[hev]at hrow hne
 refine(EY p.lo p.b wt a b x0 x1 x2 xa xl xc va d.es.length vc _ (fun W w' y0 y1 y2 ya yl yc=>∃y:Tc,(y.1=(y0,y1,y2)/\y.2.1=(ya,yc)/\y.2.2.length=yl)/\(In w'.heap.size w' 13 y/\Off (fun q=>W.heap.size<=q) 13 y)/\cn 13 y=t/\xy y) w hL hsb hlo ⟨?_,by simp[World.frozen?,hbx]⟩ hrow hne hc).mono ?_
 ·have h1:=ae hbx 6
  simp only[cZ,List.getElem?_cons_zero,List.getElem?_cons_succ]at h1
  rw[hev]at h1
  exact h1
 rintro e w' ⟨rfl,H⟩
 obtain⟨g,c,w5,hw',W,W4,y0,y1,y2,ya,yl,yc,k1,k2,⟨y,⟨e1,e2,e3⟩,hy,hcn,hok⟩,k3,k4,k5⟩:=H.out
 have hb4:Below w.heap.size w W4:=k1.trans (k2.mono k1.size)
 have hk5:Kee (fun r=>(Value.slice va d.es.length vc).ownBlock=some r) w w5:=(aj hb4 _).trans k3 fun _ _ e=>e
 have hk:Kee (fun q=>q=p.b∨d.ow q=-3) w w':=by
  rw[hw']
  refine(hk5.mono (T:=fun q=>q=p.b∨d.ow q=-3) fun q _ e=>Or.inr (h.evr.2 q (by rw[hev];exact e))).trans (aP w5 p.b 6 _) fun q _ e=>Or.inl e
 have hs:=hk.size
 have hsz:w'.heap.size=w5.heap.size:=by rw[hw'];simp[World.setCell]
 have hbox:w'.heap[p.b]? =some (.cells (cZ p (s.tell wt a b t) {d with ow:=FI d w w' (-3),ev:=.slice (some ⟨g,0,none⟩) (d.es.length+1) c,es:=d.es++ [(wt,a,b,y)]}) 72):=by
  have h5:w5.heap[p.b]? =some (.cells (cZ p s d) 72):=(hk5.block p.b hsb hne).trans hbx
  rw[hw']
  simp[World.setCell,Array.getElem?_modify,h5,cZ,Sy.tell]
 have hlow:=uk (t:=-3) h hs hlo
 have hold:=uo (w':=w') (t:=-3) h
 have hT:∀{u:Int},u≠ -3->u≠ -5->∀q,d.ow q=u->¬(q=p.b∨d.ow q=-3):=fun h3 h5 q e z=>by
  rcases z with rfl|z
  ·rw[h.own]at e
   exact h5 e.symm
  ·exact h3 (e.symm.trans z)
 have hnew:∀q,w.heap.size<=q->q<w'.heap.size->FI d w w' (-3) q=-3:=fun q a1 a2=>if_pos ⟨a1,a2⟩
 obtain⟨b1,b2⟩:=oW hbox
 obtain⟨z1,z2,z3⟩:=h.wyK hk (hT (by decide) (by decide)) hold rfl b1
 refine⟨rfl,.slice (some ⟨g,0,none⟩) (d.es.length+1) c,y,⟨hlow,hbox,(hold p.b (by rw[h.own];decide)).trans h.own,⟨h.pgK hk (hT (by decide) (by decide)) hold,h.pg.2⟩,h.pmK hk (fun q e1 e2 z=> ?_) hold,h.keys,fun k b q=>h.psK hk (Nat.le_refl _) (hT (by have:=(h.key q).1;omega) (by have:=(h.key q).1;omega)) hold hlow q,⟨z1,z2,h.wy.2.2.1,h.wy.2.2.2.1,z3⟩,h.bdK hk (hT (by decide) (by decide)) hold rfl b2,⟨?_,fun q e=> ?_⟩, ?_,fun e he=> ?_⟩,hk⟩
 ·rcases z with z|z
  ·exact e2 z
  ·rw[e1]at z
   cases z
 ·have e:[(wt,a,b,y)].flatMap Jt=[.string wt,.int .i64 a,.int .i64 b,.int .i64 y0,.int .i64 y1,.string y2,.slice ya yl yc]:=by simp[Jt,e1,e2,e3]
  have h5:w'.ownsRow p.lo 58 7 (.slice (some ⟨g,0,none⟩) (d.es.length+1) c) (d.es.length+1) (d.es.flatMap Jt++ [(wt,a,b,y)].flatMap Jt):=by
   rw[e,hw']
   refine aG k4 (aP w5 p.b 6 _) fun q hq z=> ?_
   have:g=q:=Option.some.inj hq
   subst this z
   rcases k5 with z|z
   ·exact hne z
   ·have:=hb4.size
    omega
  rw[<-List.flatMap_append]at h5
  simpa using h5
 ·have hgq:g=q:=Option.some.inj e
  subst hgq
  rcases k5 with z|z
  ·have h3:=h.evr.2 g (by rw[hev];exact z)
   exact(hold g (by rw[h3];decide)).trans h3
  ·have:=hb4.size
   have:=(k4.lt g rfl).2
   exact hnew g (by omega) (by omega)
 ·show _=s.evs++ [(wt,a,b,t)]
  rw[List.map_append,h.evt.1,List.map_cons,List.map_nil,hcn]
 ·have hkf:Kee (fun q=>q=p.b∨d.ev.ownBlock=some q) w w':=by
    rw[hw',hev]
    exact(hk5.mono (T:=fun q=>q=p.b∨(Value.slice va d.es.length vc).ownBlock=some q) fun q _ e=>Or.inr e).trans (aP w5 p.b 6 _) fun q _ e=>Or.inl e
  have hk4:Kee (fun q=>q=p.b∨d.ev.ownBlock=some q) W4 w':=by
   rw[hw',hev]
   exact(k3.mono (T:=fun q=>q=p.b∨(Value.slice va d.es.length vc).ownBlock=some q) fun q _ e=>Or.inr e).trans (aP w5 p.b 6 _) fun q _ e=>Or.inl e
  have hs4:=hb4.size
  rcases List.mem_append.1 he with he|he
  ·obtain⟨⟨o1,o2⟩,o3⟩:=h.evt.2 e he
   refine⟨?_,o3⟩
   have o4:=dV hkf (D:=fun q=>(d.ow q=-3/\d.ev.ownBlock≠some q)/\q<w.heap.size) (fun q z1 z2=> ?_) ⟨o1,In.offB o2 o1⟩
   ·refine⟨o4.1,o4.2.mono fun q z=>⟨(hold q (by rw[z.1.1];decide)).trans z.1.1,fun z2=> ?_⟩⟩
    have hgq:g=q:=Option.some.inj z2
    subst hgq
    rcases k5 with z3|z3
    ·exact z.1.2 (by rw[hev];exact z3)
    ·omega
   ·rcases z2 with rfl|z2
    ·have:=z1.1.1
     rw[h.own]at this
     cases this
    ·exact z1.1.2 z2
  ·obtain rfl:=List.mem_singleton.1 he
   refine⟨?_,hok⟩
   have hk1:=k1.size
   have hlt:∀q,d.ev.ownBlock=some q->q<w.heap.size:=fun q z=>(h.evr.1.lt q z).2
   have o4:=dV hk4 (D:=fun q=>W.heap.size<=q/\q<W4.heap.size) (fun q z1 z2=> ?_) ⟨hy.1,In.offB hy.2 hy.1⟩
   ·have:=k3.size
    refine⟨o4.1,o4.2.mono fun q z=>⟨hnew q (by omega) (by omega),fun z2=> ?_⟩⟩
    have hgq:g=q:=Option.some.inj z2
    subst hgq
    rcases k5 with z3|z3
    ·have:=hlt g (by rw[hev];exact z3)
     omega
    ·omega
   ·rcases z2 with rfl|z2
    ·omega
    ·have:=hlt q z2
     omega
theorem QH {w:World} {q:Nat} {u0 u1 u2 u3:Value} {T:TypeId} {fr:Nat×Nat} (h:w.heap[q]? =some (.cells #[u0,u1,u2,u3] T fr)):w.cell? ⟨q,0,none⟩=some u0/\w.cell? ⟨q,1,none⟩=some u1/\w.cell? ⟨q,2,none⟩=some u2/\w.cell? ⟨q,3,none⟩=some u3:=by simp[World.cell?,h]
end Go.Proofs.YtmbjgiaebneodaaGreat
