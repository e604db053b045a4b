/- What is proved here: plain facts and contracts that the claimed theorem stands on. No condition but those that each names. -/
import Derived.Test.YtmbjgiaebneodaaGreatG28
namespace Go.Proofs.YtmbjgiaebneodaaGreat
open Go.RowKit
open Go.RowKit Go.Maps
theorem KI {α β:Type} {l r:List α} (h:List.Sublist l r) (f:α->List β):List.Sublist (l.flatMap f) (r.flatMap f):=by
 induction h with
 | slnil=>exact List.Sublist.refl _
 | cons a _ ih=>
  simp only[List.flatMap_cons]
  exact ih.trans (List.sublist_append_right _ _)
 | cons_cons a _ ih=>
  simp only[List.flatMap_cons]
  exact List.Sublist.append (List.Sublist.refl _) ih
theorem NW {α:Type} {l r:List α} (h:List.Sublist l r) (f:α->Int) (h0:∀a,0<=f a):(l.map f).sum<=(r.map f).sum:=by
 induction h with
 | slnil=>exact Int.le_refl _
 | cons a _ ih=>
  simp only[List.map_cons,List.sum_cons]
  have:=h0 a
  omega
 | cons_cons a _ ih=>
  simp only[List.map_cons,List.sum_cons]
  omega
theorem PHas.erase {N:Nat} {ws:List Wd} {nm:List ByteArray} {room:Int} {sv:Wd} {vs:List Wd} {s:Tm (N+1)} {ms:List (Tm (N+1))} (h:PHas (N+1) ws nm room (sv::vs) (s::ms)) (i:Nat):PHas (N+1) ws nm room (sv::vs.eraseIdx i) (s::ms.eraseIdx i):=by
 obtain⟨k1,k2,k3,k4,k5,k6,k7,k8⟩:=h
 have hl:vs.length=ms.length:=by simpa using k1.1
 have hs:List.Sublist (sv::vs.eraseIdx i) (sv::vs):=(List.eraseIdx_sublist vs i).cons_cons sv
 have ht:List.Sublist (s::ms.eraseIdx i) (s::ms):=(List.eraseIdx_sublist ms i).cons_cons s
 refine⟨⟨by simp[List.length_eraseIdx,hl],fun j v y hv hy=> ?_⟩,(KI hs _).nodup k2,fun y hy=>k3 y (ht.subset hy), ?_,k5,k6,k7,k8⟩
 ·cases j with
  | zero=>
   simp only[List.getElem?_cons_zero,Option.some.injEq]at hv hy
   exact k1.2 0 v y (by simp[hv]) (by simp[hy])
  | succ j=>
   simp only[List.getElem?_cons_succ,List.getElem?_eraseIdx]at hv hy
   by_cases hj:j<i
   ·rw[if_pos hj]at hv hy
    exact k1.2 (j+1) v y (by simpa using hv) (by simpa using hy)
   ·rw[if_neg hj]at hv hy
    exact k1.2 (j+2) v y (by simpa using hv) (by simpa using hy)
 ·have:=NW ht (sz (N+1)) fun a=>(dI (N+1) a).1
  omega
section
variable {base pb:Nat} {name:ByteArray} {room:Int} {N:Nat} {s:Tm (N+1)} {ms:List (Tm (N+1))} {nk:Nat} {M:Nat->Prop} {w:World} {ws:List Wd} {nm:List ByteArray} {sv:Wd} {vs:List Wd} {ma:Option Addr} {mc:Nat} {Mh:Nat->Prop}
theorem PrAt.dropped (h:PrAt base pb name room (N+1) s ms [] nk M w ws nm sv vs ma mc Mh) (i:Nat) {w1:World} {g:Nat} (hng:¬Mh g) (hk:Kee (fun b=>b=g) w w1) (hm:MailAt Mh ma (vs.eraseIdx i) mc w1) (hgM:M g):
    PrAt base pb name room (N+1) s (ms.eraseIdx i) [] nk M (w1.setCell ⟨pb,7,none⟩ (.slice ma (vs.eraseIdx i).length mc)) ws nm sv (vs.eraseIdx i) ma mc Mh/\Keep M w (w1.setCell ⟨pb,7,none⟩ (.slice ma (vs.eraseIdx i).length mc)):=by
 obtain⟨hpb,hpl⟩:=h.box0
 have h1:HpAt base (PL pb name sv (.slice ma vs.length mc)) room ws nm Mh w1:=h.heap.kept (ic hk) fun b hb _ q=>hng (by rw[<-q];exact hb)
 have k:=aI w1 pb 7 (.slice ma (vs.eraseIdx i).length mc)
 have hh:=h.has
 simp only[List.map_nil,List.append_nil]at hh
 refine⟨⟨h1.turn k fun tv lv mp hc=> ?_, ?_, ?_, ?_,h.names,h.inM,h.mailM⟩, ?_⟩
 ·unfold World.setCell
  simp[Array.getElem?_modify,hc]
 ·rcases hm with e|⟨g',mo,cur,e1,e2,e3,e4⟩
  ·exact Or.inl e
  ·exact Or.inr ⟨g',mo,cur,e1,e2,(k.block g' (Array.getElem?_eq_some_iff.1 e3).1 fun e=>e2 (by rw[e];exact hpb)).trans e3,e4⟩
 ·simp only[List.map_nil,List.append_nil]
  exact hh.erase i
 ·simp[List.length_eraseIdx,h.len]
 ·refine Keep.trans ((ic hk).mono fun b q=> ?_) k fun b _ q=> ?_
  ·rw[q]
   exact hgM
  ·rw[q]
   exact h.inM pb hpb
theorem PrAt.delete (h:PrAt base pb name room (N+1) s ms [] nk M w ws nm sv vs ma mc Mh) (i:Nat) (hi:i<ms.length) (h20:ms.length<=1000):
    Calls Tryz.prog 57 #[.slice ma vs.length mc,.int .i64 i,.int .i64 ((i:Int)+1)] w fun e w'=>e=.returned (.slice ma (vs.eraseIdx i).length mc)/\Hid (Kee M w w'/\w'.cell? ⟨pb,7,none⟩=some (.slice ma vs.length mc)/\w'.frozen? ⟨pb,7,none⟩=false/\
     PrAt base pb name room (N+1) s (ms.eraseIdx i) [] nk M (w'.setCell ⟨pb,7,none⟩ (.slice ma (vs.eraseIdx i).length mc)) ws nm sv (vs.eraseIdx i) ma mc Mh/\Keep M w (w'.setCell ⟨pb,7,none⟩ (.slice ma (vs.eraseIdx i).length mc))):=by
 have hl:=h.len
 obtain⟨hpb,hpl⟩:=h.box0
 have hel:(vs.eraseIdx i).length=vs.length-1:=by rw[List.length_eraseIdx,if_pos (by omega)]
 rcases h.mail with⟨_,e,_⟩|⟨g,mo,cur,rfl,e2,e3,e4,e5,e6,e7⟩
 ·rw[e]at hl
  simp at hl
  omega
 ·refine(zh g mo mc i vs cur w (by omega) e3 e4 (by omega) e6 e7).mono ?_
  rintro e w' ⟨rfl,H⟩
  obtain⟨hk,hsz,cur',c1,c2,c3⟩:=H.out
  have hgM:=h.mailM _ rfl
  have hne:¬pb=g:=fun e=>e2 (by rw[<-e];exact hpb)
  obtain⟨tv,lv,mv,hb,_⟩:=h.heap.box
  obtain⟨_,_,_,c7,cf,_⟩:=PL.cells hb
  have hd:=h.dropped i (w1:=w') (g:=g) e2 hk (Or.inr ⟨g,mo,cur',rfl,e2,c1,by omega,e5,by omega,by rw[hel];exact c3⟩) hgM
  refine⟨by rw[hel],hk.mono fun b _ e=>by rw[e];exact hgM,(hk.cell 7 hpl hne).trans c7, ?_,hd⟩
  have hf:=cf 7
  unfold World.frozen? at hf ⊢
  rw[hk.block pb hpl hne]
  exact hf
end
def qQ (n:Nat) (room:Int) (l:List (Bh (n+1))) (name:ByteArray) (self next:Int) (s:Tc) (ms:List Tc):Int:=
 if lM n l≠0 then lM n l else if (decide (1<=self) && decide (self<=99) && decide (1<=next) && decide (next<=92))=false then 1 else if (mh room l name self next s ms).isSome then 0 else 4
def TkRows (b0:Nat) (sends:List (Int×Tc)) (spawns:List (Int×ByteArray×Tc)) (links:List Int) (sa:Option Addr) (sl sc:Nat) (pa:Option Addr) (pl pc:Nat) (ka:Option Addr) (kl kc:Nat) (P:Nat->Prop) (w:World):Prop:=
 ∃(N:Nat) (sd:List (Int×Tm (N+1))) (sp:List (Int×ByteArray×Tm (N+1))),(sd.length=sl/\sp.length=pl/\links.length=kl)/\w.ownsRow b0 149 5 (.slice sa sl sc) sl (sd.flatMap fun z=>OE z.1 z.2)/\w.ownsRow b0 146 6 (.slice pa pl pc) pl (sp.flatMap fun z=>Po z.1 z.2.1 z.2.2)/\w.ownsRow b0 3 1 (.slice ka kl kc) kl (links.map fun u=> .int .i64 u)/\
  sd.map (fun z=>(z.1,cn _ z.2))=sends/\sp.map (fun z=>(z.1,z.2.1,cn _ z.2.2))=spawns/\(∀z∈sd,aQ _ z.2=0/\In w.heap.size w _ z.2/\Off (fun q=>b0<=q/\P q) _ z.2)/\(∀z∈sp,aQ _ z.2.2=0/\In w.heap.size w _ z.2.2/\Off (fun q=>b0<=q/\P q) _ z.2.2)/\∀q,((Value.slice sa sl sc).ownBlock=some q∨(Value.slice pa pl pc).ownBlock=some q∨(Value.slice ka kl kc).ownBlock=some q)->b0<=q/\P q
theorem TkRows.kept {b0:Nat} {sends:List (Int×Tc)} {spawns:List (Int×ByteArray×Tc)} {links:List Int} {sa:Option Addr} {sl sc:Nat} {pa:Option Addr} {pl pc:Nat} {ka:Option Addr} {kl kc:Nat} {P:Nat->Prop} {w w':World} (h:TkRows b0 sends spawns links sa sl sc pa pl pc ka kl kc P w) {S:Nat->Prop} (hk:Kee S w w') (hS:∀q,b0<=q->P q->q<w.heap.size->¬S q):TkRows b0 sends spawns links sa sl sc pa pl pc ka kl kc P w':=by
 obtain⟨N,sd,sp,h0,h1,h2,h3,h4,h5,h6,h7,h8⟩:=h
 have hin:∀{m:Nat} {x:Tm m},In w.heap.size w m x->Off (fun q=>b0<=q/\P q) m x->In w'.heap.size w' m x:=fun hi ho=>hi.kee (hk.mono (T:=fun b=>S b/\b<w.heap.size) fun b hb q=>⟨q,hb⟩) (ho.mono fun q hq (z:S q/\q<w.heap.size)=>hS q hq.1 hq.2 z.2 z.1)
 have hrow:∀{e:TypeId} {z m:Nat} {v:Value} {xs:List Value},w.ownsRow b0 e z v m xs->(∀q,v.ownBlock=some q->b0<=q/\P q)->w'.ownsRow b0 e z v m xs:=fun{e z m v xs} hr hv=>aG hr hk fun q hq=>by
  obtain⟨cur,hcu⟩:=dz hr q hq
  exact hS q (hv q hq).1 (hv q hq).2 (Array.getElem?_eq_some_iff.1 hcu).1
 exact⟨N,sd,sp,h0,hrow h1 fun q hq=>h8 q (Or.inl hq),hrow h2 fun q hq=>h8 q (Or.inr (Or.inl hq)),hrow h3 fun q hq=>h8 q (Or.inr (Or.inr hq)),h4,h5,fun z hz=>⟨(h6 z hz).1,hin (h6 z hz).2.1 (h6 z hz).2.2,(h6 z hz).2.2⟩,fun z hz=>⟨(h7 z hz).1,hin (h7 z hz).2.1 (h7 z hz).2.2,(h7 z hz).2.2⟩,h8⟩
theorem TkRows.none (b0:Nat) (P:Nat->Prop) (w:World):TkRows b0 [] [] [] none 0 0 none 0 0 none 0 0 P w:=
 ⟨0,[],[],⟨rfl,rfl,rfl⟩,World.ownsRow_nil _ _ _ _,World.ownsRow_nil _ _ _ _,World.ownsRow_nil _ _ _ _,rfl,rfl,fun z hz=>(by cases hz),fun z hz=>(by cases hz),fun q hq=>by
  rcases hq with hq|hq|hq<;>cases hq⟩
def QJ (pbase pb:Nat) (name:ByteArray) (room:Int) (s:Tc) (ms:List Tc) (nk:Nat) (M:Nat->Prop) (n:Nat) (l:List (Bh (n+1))) (self next:Int) (w:World) (e:Ending) (w':World):Prop:=
 (∃u,e=.returned (.tuple #[M3,.int .i64 u])/\Hid (u≠0/\u=qQ n room l name self next (cn 13 s) (ms.map (cn 13))/\Below w.heap.size w w'))∨
  ∃(y:Tc) (f:Int) (sa:Option Addr) (sl sc:Nat) (pa:Option Addr) (pl pc:Nat) (ka:Option Addr) (kl kc:Nat),e=.returned (.tuple #[Py y.1.1 y.1.2.1 y.1.2.2 y.2.1.1 y.2.2.length y.2.1.2 f sa sl sc pa pl pc ka kl kc,.int .i64 0])/\Hid (∃tk i L,qQ n room l name self next (cn 13 s) (ms.map (cn 13))=0/\mh room l name self next (cn 13 s) (ms.map (cn 13))=some tk/\f=tk.fate/\cn 13 y=tk.message/\aQ 13 y=0/\In w'.heap.size w' 13 y/\Off (fun q=>w.heap.size<=q/\q<L) 13 y/\Keep M w w'/\w.heap.size<L/\
   (∃s' ws' nm' sv' vs' ma' mc' Mh',PrAt pbase pb name room 13 s' (ms.eraseIdx i) [] (nk+402) (fun q=>M q∨L<=q) w' ws' nm' sv' vs' ma' mc' Mh'/\cn 13 s'=tk.state/\(ms.eraseIdx i).map (cn 13)=tk.mail)/\TkRows (w.heap.size+1) tk.sends tk.spawns tk.links sa sl sc pa pl pc ka kl kc (fun _=>True) w')
theorem Pq {n:Nat} (room self next:Int) (s m:Tc) (ms:List Tc) (c:Cl (n+1)) (b:List Tc):dR room self next s m ms c b={dR room self next s s ms c b with message:=m}:=by
 unfold dR
 cases rG self c.2.2 ⟨b,next,[],[],[],false⟩with
 | none=>rfl
 | some d=>
  cases hv:qL d.b self (n+1) c.1.2.2 with
  | none=>simp only[hv]
  | some t=>
   simp only[hv]
   by_cases hle:(ms.map (sz 13)).sum+sz 13 t<=room
   ·simp only[if_pos hle]
   ·simp only[if_neg hle]
theorem Hw {n:Nat} {room self next:Int} {s m:Tc} {ms:List Tc} {c:Cl (n+1)} {b:List Tc} (h:¬((dR room self next s m ms c b).fate=0∨(dR room self next s m ms c b).fate=1)):(dR room self next s m ms c b).sends=[]/\(dR room self next s m ms c b).spawns=[]/\(dR room self next s m ms c b).links=[]:=by
 unfold dR at h ⊢
 cases hd:rG self c.2.2 ⟨b,next,[],[],[],false⟩with
 | none=>exact⟨rfl,rfl,rfl⟩
 | some d=>
  rw[hd]at h
  cases hv:qL d.b self (n+1) c.1.2.2 with
  | none=>simp[hv]
  | some t=>
   simp only[hv]at h ⊢
   by_cases hle:(ms.map (sz 13)).sum+sz 13 t<=room
   ·simp only[if_pos hle]at h
    cases hst:d.stops<;>simp[hst]at h
   ·simp[if_neg hle]
theorem Jo {n:Nat} (room self next:Int) (s m:Tc) (ms:List Tc) (c:Cl (n+1)) (b:List Tc):(dR room self next s m ms c b).mail=ms:=by
 unfold dR
 cases rG self c.2.2 ⟨b,next,[],[],[],false⟩with
 | none=>rfl
 | some d=>
  cases hv:qL d.b self (n+1) c.1.2.2 with
  | none=>simp only[hv]
  | some t=>
   simp only[hv]
   by_cases hle:(ms.map (sz 13)).sum+sz 13 t<=room
   ·simp only[if_pos hle]
   ·simp only[if_neg hle]
theorem BRow.keptS {D:Nat} {l:List (Tm D)} {B:List Tc} {b0:Nat} {w w':World} {bg bc:Nat} {S:Nat->Prop} (h:BRow D l B b0 w bg bc) (hk:Kee S w w') (hS:∀q,b0<=q->¬S q):BRow D l B b0 w' bg bc:=by
 obtain⟨h1,h2⟩:=h.new
 refine⟨h.bnd,h.tells,h.cap,⟨h1,Nat.lt_of_lt_of_le h2 hk.size⟩,fun i y hy=> ?_,fun j=> ?_⟩
 ·obtain⟨k1,k2,k3⟩:=h.at' i y hy
  exact⟨k1.kee hk h2 (hS bg h1),k2.kee hk (k3.mono fun r hr=>hS r hr.1),k3⟩
 ·have hf:=h.free j
  unfold World.frozen? at hf ⊢
  rw[hk.block bg h2 (hS bg h1)]
  exact hf
theorem xG {n B:Nat} {w:World} {la:Option Addr} {l:List (Bh (n+1))} (hl:PgIn (n+1) B w la l) (name:ByteArray):∃ca cL cc,M7 (n+1) (fO (n+1) name l)=.slice ca cL cc/\(gD name l).length=cL/\Lay B w 13 (dJ (n+1)) (fM (n+1) B w) ca (gD name l)/\(gD name l=[]∨∃b∈l,gD name l=b.2.2):=by
 have hmem:∀(l:List (Bh (n+1))) b,fO (n+1) name l=some b->b∈l:=by
  intro l
  induction l with
  | nil=>intro b h;cases h
  | cons a l ih=>
   intro b h
   simp only[fO]at h
   split at h
   ·obtain rfl:=Option.some.inj h
    simp
   ·exact List.mem_cons_of_mem _ (ih b h)
 unfold gD
 cases hb:fO (n+1) name l with
 | none=>exact⟨none,0,0,rfl,rfl,Or.inl rfl,Or.inl rfl⟩
 | some b=>
  have hm:=hmem l b hb
  refine⟨_,_,_,rfl,rfl, ?_,Or.inr ⟨b,hm,rfl⟩⟩
  rcases hl with e|⟨q,o,e,hq,hc⟩
  ·rw[e]at hm
   cases hm
  ·obtain⟨i,hi⟩:=List.getElem?_of_mem hm
   exact((hc i b hi).2).2.2
theorem PrAt.step {pbase pb n:Nat} {name:ByteArray} {room:Int} {s:Tc} {ms:List Tc} {nk:Nat} {M:Nat->Prop} {w:World} {ws:List Wd} {nm:List ByteArray} {sv:Wd} {vs:List Wd} {ma:Option Addr} {mc:Nat} {Mh:Nat->Prop}
    (hp:PrAt pbase pb name room 13 s ms [] nk M w ws nm sv vs ma mc Mh) (l:List (Bh (n+1))) (la:Option Addr) (lc B:Nat) (hl:PgIn (n+1) B w la l) (hB:B<=w.heap.size) (hlc:l.length<=lc) (hmx:lc<=maxLen) (hN:iZ (n+1) l=true->(nodes (n+6) (bM n l)).length<=2097152) (hM:∀b,M b->b<w.heap.size) (hPg:∀W,Kee M w W->PgIn (n+1) B W la l) (hnk:nk<=47000) (h20:ms.length<=999) (hbw:pbase<=w.heap.size) (self next:Int):
    Calls Tryz.prog 34 #[.pointer (some ⟨pb,0,none⟩),.slice la l.length lc,.int .i64 self,.int .i64 next] w (QJ pbase pb name room s ms nk M n l self next w):=by
 obtain⟨hpb,hpl⟩:=hp.box0 (N:=12)
 obtain⟨tv,lv,mv,hbx,_⟩:=hp.heap.box
 obtain⟨c0,_,_,c7,cf,_⟩:=PL.cells hbx
 obtain⟨ca,cL,cc0,hcv,hcl,hcy,hcm⟩:=xG hl name
 have hmx':lc<=9223372036854775807:=by unfold maxLen at hmx;omega
 have hclok:lM n l=0->(∀c∈gD name l,Ob c)/\(gD name l).length<=6:=fun h0=>by
  obtain⟨_,hok⟩:=NI h0
  rcases hcm with e|⟨b,hb,e⟩
  ·rw[e]
   exact⟨fun c hc=>(by cases hc),Nat.zero_le _⟩
  ·rw[e]
   exact⟨(hok b hb).2,(hok b hb).1⟩
 have himem:∀(i:Nat) (t:Tc),(ms.map (cn 13))[i]? =some t->i<ms.length:=fun i t h=>by
  have:=(List.getElem?_eq_some_iff.1 h).1
  simpa using this
 refine(IP pb name la l.length lc self next (lM n l) ca cL cc0 w (yt (gD name l) (cn 13 s) (ms.map (cn 13)) 0=none)
  (fun i y c bg cc W0=>∃Bd D lr,Below w.heap.size w W0/\(1<=self/\self<=99/\1<=next/\next<=92)/\lM n l=0/\yt (gD name l) (cn 13 s) (ms.map (cn 13)) 0=some (i,c,Bd)/\c∈gD name l/\(ms.map (cn 13))[i]? =some (cn 13 y)/\aQ 13 y=0/\In W0.heap.size W0 13 y/\Off (fun q=>w.heap.size<q/\q≠bg) 13 y/\BRow (D+1) lr Bd (w.heap.size+1) W0 bg cc)
  (fun i y c bg cc W0=>∃Bd D lr ws' nm' sv' vs' ma' mc' Mh',PrAt pbase pb name room 13 s (ms.eraseIdx i) [] nk M W0 ws' nm' sv' vs' ma' mc' Mh'/\Keep M w W0/\(1<=self/\self<=99/\1<=next/\next<=92)/\lM n l=0/\yt (gD name l) (cn 13 s) (ms.map (cn 13)) 0=some (i,c,Bd)/\c∈gD name l/\(ms.map (cn 13))[i]? =some (cn 13 y)/\aQ 13 y=0/\In W0.heap.size W0 13 y/\Off (fun q=>w.heap.size<q/\q≠bg) 13 y/\BRow (D+1) lr Bd (w.heap.size+1) W0 bg cc)
  (fun i y c f sa sl sc pa pl pc ka kl kc W1=>∃Bd L,yt (gD name l) (cn 13 s) (ms.map (cn 13)) 0=some (i,c,Bd)/\(ms.map (cn 13))[i]? =some (cn 13 y)/\aQ 13 y=0/\In W1.heap.size W1 13 y/\Off (fun q=>w.heap.size<q/\q<L) 13 y/\w.heap.size<L/\Keep M w W1/\f=(dR room self next (cn 13 s) (cn 13 s) ((ms.eraseIdx i).map (cn 13)) c Bd).fate/\
   (∃s' ws' nm' sv' vs' ma' mc' Mh',PrAt pbase pb name room 13 s' (ms.eraseIdx i) [] (nk+402) (fun q=>M q∨L<=q) W1 ws' nm' sv' vs' ma' mc' Mh'/\cn 13 s'=(dR room self next (cn 13 s) (cn 13 s) ((ms.eraseIdx i).map (cn 13)) c Bd).state)/\
   TkRows (w.heap.size+1) (dR room self next (cn 13 s) (cn 13 s) ((ms.eraseIdx i).map (cn 13)) c Bd).sends (dR room self next (cn 13 s) (cn 13 s) ((ms.eraseIdx i).map (cn 13)) c Bd).spawns (dR room self next (cn 13 s) (cn 13 s) ((ms.eraseIdx i).map (cn 13)) c Bd).links sa sl sc pa pl pc ka kl kc (fun _=>True) W1)
  _ M hpl hM (hp.inM pb hpb) rfl ?_ c0 ?_ ?_ ?_ ?_).mono ?_
 ·intro W hW
  refine(Mg n l la lc hlc hmx B W (hl.below (hW.mono hB)) (Nat.le_trans hB hW.size) hN).mono ?_
  rintro e w' ⟨y,rfl,H⟩
  exact⟨_,_,_,_,_,_,rfl,H.out.1⟩
 ·intro W _ hW
  refine(vY (n+1) name l la lc l.length B W rfl (by omega) (Nat.le_trans hB hW.size) (hl.below (hW.mono hB))).mono ?_
  rintro e w' ⟨rfl,hb⟩
  exact⟨by rw[hcv],hb⟩
 ·intro W h0 hr hW
  simp only[Bool.and_eq_true,decide_eq_true_eq]at hr
  obtain⟨hokc,hlen⟩:=hclok h0
  have hch:=D6 (hp.later (N:=12) hW) (gD name l) ca cc0 B ((bi (dA (n+1)) 13 (dJ (n+1)) ca).below (hW.mono hB) hcy) (Nat.le_trans hB hW.size) hokc (by omega) (by omega) (by omega)
  rw[hcl]at hch
  refine hch.mono ?_
  rintro e w' (⟨h1,rfl,H⟩|⟨i,y,c,bg,cc,rfl,H⟩)
  ·exact Or.inl ⟨rfl,H.out,h1⟩
  ·obtain⟨Bd,D,lr,k1,k2,k3,k4,k5,k6,k7,k8⟩:=H.out
   have hsz:=hW.size
   have hn:=k8.new
   have hi:=himem i _ k3
   exact Or.inr ⟨i,y,c,bg,cc,rfl,k5,by omega,hn.2,by omega,Bd,D,lr,hW.trans (k5.mono hsz),⟨hr.1.1.1,hr.1.1.2,hr.1.2,hr.2⟩,h0,k1,k2,k3,k4,k6,k7.mono fun q hq=>⟨by omega,hq.2⟩,k8.mono (by omega)⟩
 ·rintro i y c bg cc W0 W ⟨Bd,D,lr,hb0,hrg,h0,k1,k2,k3,k4,k6,k7,k8⟩ hW
  have hbW:=hb0.trans (hW.mono hb0.size)
  have hi:=himem i _ k3
  obtain⟨tv',lv',mv',hbx',_⟩:=(hp.later (N:=12) hbW).heap.box
  obtain⟨_,_,_,c7',cf',_⟩:=PL.cells hbx'
  refine⟨ma,vs.length,mc,⟨c7',cf' 7⟩,fun W2 hW2=> ?_⟩
  have hb2:=hbW.trans (hW2.mono hbW.size)
  refine((hp.later (N:=12) hb2).delete (N:=12) i hi (by omega)).mono ?_
  rintro e w' ⟨rfl,H⟩
  obtain⟨j1,j2,j3,j4,j5⟩:=H.out
  have hs0:=hb0.size
  refine⟨ma,_,mc,rfl,j1,j2,j3,Bd,D,lr,ws,nm,sv,_,ma,mc,Mh,j4,(aD hb2 M).trans j5 fun _ _ e=>e,hrg,h0,k1,k2,k3,k4, ?_,k7, ?_⟩
  ·exact(((k6.below hW).mono hW.size |>.below hW2).mono hW2.size).kee (gm j5) (k7.mono fun q hq z=>by have:=hM q z;omega)
  ·exact((k8.keptS (aj hW (fun _=>False)) (fun _ _ e=>e)).keptS (aj hW2 (fun _=>False)) (fun _ _ e=>e)).keptS (gm j5) fun q hq z=>by have:=hM q z;omega
 ·rintro i y c bg cc W0 W db ⟨Bd,D,lr,ws',nm',sv',vs',ma',mc',Mh',hp',hkw,hrg,h0,k1,k2,k3,k4,k6,k7,k8⟩ hW hdb hbox
  obtain⟨hokc,hlen⟩:=hclok h0
  have kW:=k8.keptS (aj hW (fun _=>False)) (fun _ _ e=>e)
  have hn:=k8.new
  have hs0:=hkw.size
  have hsW:=hW.size
  have hi:=himem i _ k3
  have hdl:db<W.heap.size:=(Array.getElem?_eq_some_iff.1 hbox).1
  have hdo:DoAt (w.heap.size+1) db self n D 0 next ⟨Bd,next,[],[],[],false⟩ W lr bg cc [] [] (.slice none 0 0) (.slice none 0 0) (.slice none 0 0):=by
   refine⟨hbox,⟨by omega,by omega,hn.1,kW.new.2,by omega⟩,kW.bnd,kW.tells,fun j z hz=>⟨(kW.at' j z hz).1,(kW.at' j z hz).2.1,(In.offB (k8.at' j z hz).2.2 (k8.at' j z hz).2.1).mono fun q hq=>⟨hq.1.1,fun hw=> ?_⟩⟩,kW.free,World.ownsRow_nil _ _ _ _,World.ownsRow_nil _ _ _ _,World.ownsRow_nil _ _ _ _,rfl,rfl,fun z hz=>(by cases hz),fun z hz=>(by cases hz),⟨⟨fun e=>(by cases e),fun e=>(by cases e),fun e=>(by cases e)⟩,⟨fun e=>(by cases e),fun e=>(by cases e),fun e=>(by cases e)⟩,fun q=>⟨fun e=>(by cases e),fun e=>(by cases e)⟩⟩,⟨Nat.zero_le _,Nat.zero_le _,Nat.zero_le _,by simp,hrg.2.2.1,hrg.2.2.2⟩⟩
   rcases hw with hw|hw|hw|hw|hw
   ·have:=hq.2
    omega
   ·exact hq.1.2 hw
   ·cases hw
   ·cases hw
   ·cases hw
  have hkW:Kee M w W:=(gm hkw).trans (aj hW (fun _=>False)) fun _ _ e=>e.elim
  have hcin:fM (n+1) B W c:=by
   obtain⟨_,_,_,_,_,hcyW,_⟩:=xG (hPg W hkW) name
   rcases hcyW with e|⟨q,o,e,hq,hcc⟩
   ·rw[e]at k2
    cases k2
   ·obtain⟨j,hj⟩:=List.getElem?_of_mem k2
    exact(hcc j c hj).2
  have hcW:fM (n+1) (w.heap.size+1) W c:=(dA (n+1)).mono (by omega) hcin
  have hel:(ms.eraseIdx i).length<=999:=by
   have:=List.length_eraseIdx_le ms i
   omega
  have hf:=D5 (b:=Bd) (hp'.later (N:=12) hW) hdo rfl c hcW (hokc c k2) ⟨hrg.1,hrg.2.1⟩ (fun q z=>by have:=hM q z;omega) (by omega) (by omega) hel
  have hf2:Calls Tryz.prog 58 #[.pointer (some ⟨pb,0,none⟩),QF c,.pointer (some ⟨db,0,none⟩)] W _:=hf
  refine hf2.mono ?_
  rintro e w' ⟨f,rfl,R1,R2,⟨s',ws2,nm2,sv2,vs2,ma2,mc2,Mh2,R3,R4⟩,R5⟩
  have hdw:∀q,jQ db bg (.slice none 0 0) (.slice none 0 0) (.slice none 0 0) q->q=db∨q=bg:=fun q hw=>by
   rcases hw with hw|hw|hw|hw|hw
   ·exact Or.inl hw
   ·exact Or.inr hw
   ·cases hw
   ·cases hw
   ·cases hw
  have hKM:Keep M w w':=(hkw.trans (aD hW M) fun _ _ e=>e).trans (ic R2) fun q hq z=>by
   rcases z with z|z
   ·exact z
   ·rcases hdw q z with z|z<;>omega
  have yo:=In.offB k7 k6
  have yi:In w'.heap.size w' 13 y:=((k6.below hW).mono hsW).kee R2 (yo.mono fun q hq z=>by
   rcases z with z|z
   ·have:=hM q z
    omega
   ·rcases hdw q z with z|z
    ·have:=hq.2
     omega
    ·exact hq.1.2 z)
  have yL:Off (fun q=>w.heap.size<q/\q<W.heap.size) 13 y:=yo.mono fun q hq=>⟨hq.1.1,by have:=hq.2;omega⟩
  refine⟨f,rfl,R2.mono fun q _ z=> ?_,fun h01=> ?_,fun h01=> ?_⟩
  ·rcases z with z|z
   ·exact Or.inl z
   ·exact Or.inr (hdw q z)
  ·obtain⟨d',l',bg',bc',sd',sp',sv3,pv3,lv3,D1,D2,D3,D4,_⟩:=R5 h01
   have hsr:=D1.sRow
   have hpr:=D1.pRow
   have hlr:=D1.lRow
   have hhi:=D1.high
   have hsin:=D1.sIn
   have hpin:=D1.pIn
   obtain⟨sa,sc,rfl⟩:=kv hsr
   obtain⟨pa,pc,rfl⟩:=kv hpr
   obtain⟨ka,kc,rfl⟩:=kv hlr
   refine⟨_,_,_,_,sa,sd'.length,sc,pa,sp'.length,pc,ka,d'.links.length,kc,D1.box,Bd,W.heap.size,k1,k3,k4,yi,yL,by omega,hKM,R1,⟨s',ws2,nm2,sv2,vs2,ma2,mc2,Mh2,R3,R4⟩, ?_⟩
   refine⟨D+1+n,sd',sp',⟨rfl,rfl,by rw[<-D4]⟩,hsr,hpr,by rw[<-D4];exact hlr,D1.sIs.trans D2,D1.pIs.trans D3,fun z hz=>⟨(hsin z hz).1,(hsin z hz).2.1,(hsin z hz).2.2.mono fun q hq=>⟨hq.1,trivial⟩⟩,fun z hz=>⟨(hpin z hz).1,(hpin z hz).2.1,(hpin z hz).2.2.mono fun q hq=>⟨hq.1,trivial⟩⟩,fun q hq=>⟨hhi q (Or.inr (Or.inr hq)),trivial⟩⟩
  ·rw[R1]at h01
   obtain⟨e1,e2,e3⟩:=Hw h01
   refine⟨Bd,W.heap.size,k1,k3,k4,yi,yL,by omega,hKM,R1,⟨s',ws2,nm2,sv2,vs2,ma2,mc2,Mh2,R3,R4⟩, ?_⟩
   rw[e1,e2,e3]
   exact TkRows.none _ _ _
 ·rintro e w' (⟨u,rfl,H⟩|⟨i,y,c,f,sa,sl,sc,pa,pl,pc,ka,kl,kc,rfl,H⟩)
  ·obtain⟨hb,hu⟩:=H.out
   refine Or.inl ⟨u,rfl, ?_⟩
   rcases hu with⟨rfl,h⟩|⟨rfl,h0,hr⟩|⟨rfl,h0,hr,hn⟩
   ·exact⟨h,by unfold qQ;rw[if_pos h],hb⟩
   ·exact⟨by decide,by unfold qQ;rw[if_neg (fun q=>q h0),if_pos hr],hb⟩
   ·refine⟨by decide, ?_,hb⟩
    have hst:mh room l name self next (cn 13 s) (ms.map (cn 13))=none:=by
     unfold mh
     rw[hn]
     rfl
    unfold qQ
    rw[if_neg (fun q=>q h0),if_neg (by rw[hr];decide),hst]
    rfl
  ·obtain⟨h0,hr,W1,W2,⟨Bd,L,k1,k3,k4,yi,yo,hL,hKM,hf,⟨s',ws2,nm2,sv2,vs2,ma2,mc2,Mh2,P1,P2⟩,hrows⟩,hb12,hk⟩:=H.out
   have hs1:=hKM.size
   have hs2:=hb12.size
   have hme:(ms.map (cn 13)).eraseIdx i=(ms.eraseIdx i).map (cn 13):=by simp[List.eraseIdx_eq_take_drop_succ,List.map_take,List.map_drop]
   have hst:mh room l name self next (cn 13 s) (ms.map (cn 13))=some {dR room self next (cn 13 s) (cn 13 s) ((ms.eraseIdx i).map (cn 13)) c Bd with message:=cn 13 y}:=by
    unfold mh
    rw[k1]
    simp only[Option.bind_some]
    rw[k3,hme,Option.map_some,Pq]
   refine Or.inr ⟨y,f,sa,sl,sc,pa,pl,pc,ka,kl,kc,rfl,_,i,L, ?_,hst,hf,rfl,k4,((yi.below hb12).mono hs2).kee hk (yo.mono fun q hq e=>by omega),yo.mono fun q hq=>⟨by omega,hq.2⟩,(hKM.trans (aD hb12 M) fun _ _ e=>e).trans (ic hk) fun b hb e=>by omega,hL,⟨s',ws2,nm2,sv2,vs2,ma2,mc2,Mh2,(P1.later (N:=12) hb12).kept (N:=12) (ic hk) fun b hb _ e=> ?_,P2,(Jo ..).symm⟩,(hrows.kept (aj hb12 (fun _=>False)) fun _ _ _ _ e=>e).kept hk fun q hq _ _ e=>by omega⟩
   ·unfold qQ
    rw[if_neg (fun q=>q h0),if_neg (by rw[hr];decide),hst]
    rfl
   ·rcases hb with hb|hb
    ·have:=hM b hb
     omega
    ·omega
theorem Iz (n:Nat) (x:Tm n):aQ n x=0∨aQ n x=2∨aQ n x=5:=by
 rw[<-ik]
 unfold zS
 split
 ·split
  ·exact Or.inr (Or.inl rfl)
  ·exact Or.inl rfl
 ·exact Or.inr (Or.inr rfl)
section
variable {base pb:Nat} {name:ByteArray} {room:Int} {N n:Nat} {s:Tm (N+1)} {ms:List (Tm (N+1))} {nk:Nat} {M:Nat->Prop} {w:World} {ws:List Wd} {nm:List ByteArray} {sv:Wd} {vs:List Wd} {ma:Option Addr} {mc:Nat} {Mh:Nat->Prop}
theorem PrAt.putBad (h:PrAt base pb name room (N+1) s ms [] nk M w ws nm sv vs ma mc Mh) (x:Tm (n+1)) (hx:In w.heap.size w (n+1) x) (ho:Off (fun b=>¬M b) (n+1) x) (hN:(nodes (n+1) x).length<=2097152) (hnk:nk<=49000) (hbw:base<=w.heap.size) (hc:aQ (n+1) x≠0):
    Calls Tryz.prog 89 #[.pointer (some ⟨pb,0,none⟩),val (n+1) x] w fun e w'=>e=.returned (.tuple #[.agg #[.int .i64 0,.int .i64 0],.int .i64 (aQ (n+1) x)])/\Below w.heap.size w w':=by
 obtain⟨_,_,_,k4,k5,k6,k7,_⟩:=h.front
 have hnn:=h.names
 have hpe:iB (n+1) x room ws=aQ (n+1) x:=by
  unfold iB
  rw[if_pos hc]
 have h6:iB (n+1) x room ws≠6:=by
  rw[hpe]
  rcases Iz (n+1) x with e|e|e<;>rw[e]<;>decide
 have hcl:∀{v:Wd} {e1:Int} {w0 w1:World},zi (n+1) x base (PL pb name sv (.slice ma vs.length mc)) room ws nm Mh v e1 w0 w1->e1≠0:=fun q=>by
  rw[q.1,hpe]
  exact hc
 refine(Cy pb x.1.1 x.1.2.1 x.1.2.2 x.2.1.1 x.2.2.length x.2.1.2 w (fun v e1 w0 w1=>zi (n+1) x base (PL pb name sv (.slice ma vs.length mc)) room ws nm Mh v e1 w0 w1) (fun _ _=>False) (fun _ _ _ _=>False) ?_ ?_ ?_).mono ?_
 ·intro w0 hb
  have hs:=hb.size
  have h0:=h.later hb
  refine(uR (n+1) x base (PL pb name sv (.slice ma vs.length mc)) room ws nm Mh w0 h0.heap ((hx.below hb).mono hs) (ho.mono fun b hb q=>hb (h.inM b q)) hN (by omega) k6 k7 (by omega) (by omega)).mono ?_
  intro e w1 q
  obtain⟨v,e1,rfl,hf⟩:=zk q
  refine⟨v,e1,rfl, ?_,hf⟩
  have hb1:=(hf.2.1 (hcl hf)).2
  exact⟨hb1.size,fun b _ _ h3=>hb1.block b h3⟩
 ·intro v1 w0 w1 w2 _ hf _ _
  exact absurd hf.1.symm h6
 ·intro _ _ _ hf
  exact hf.elim
 ·rintro e w' ⟨v,e1,rfl,⟨_,w0,w1,hb,hf,hk⟩|⟨_,_,_,_,_,_,_,_,_,_,_,hf,_⟩⟩
  ·obtain⟨hv,hb1⟩:=hf.2.1 (hcl hf)
   have hs:=hb.size
   have he:e1=aQ (n+1) x:=hf.1.trans hpe
   refine⟨by rw[he,hv],(hb.trans (hb1.mono hs)).trans ((gm hk).below (by have:=hb1.size;omega) fun b hb' q=>by omega)⟩
  ·exact hf.elim
theorem PrAt.deliverBad (h:PrAt base pb name room (N+1) s ms [] nk M w ws nm sv vs ma mc Mh) (x:Tm (n+1)) (hx:In w.heap.size w (n+1) x) (ho:Off (fun b=>¬M b) (n+1) x) (hN:(nodes (n+1) x).length<=2097152) (hnk:nk<=49000) (hbw:base<=w.heap.size) (hc:aQ (n+1) x≠0):
    Calls Tryz.prog 64 #[.pointer (some ⟨pb,0,none⟩),val (n+1) x] w fun e w'=>e=.returned (.int .i64 (if 20<=ms.length then 2 else aQ (n+1) x))/\Below w.heap.size w w':=by
 have hlen:=h.len
 obtain⟨hpb,hpl⟩:=h.box0
 refine(qG pb x.1.1 x.1.2.1 x.1.2.2 x.2.1.1 x.2.2.length x.2.1.2 vs.length mc ma w (fun _ e1 w0 w1=>e1=aQ (n+1) x/\Below w0.heap.size w0 w1) (fun _ _ _ _ _ _=>False) hpl ?_ ?_ ?_).mono ?_
 ·intro w1 hb
  obtain⟨tv,lv,mv,h1,_⟩:=(h.later hb).heap.box
  exact(PL.cells h1).2.2.2.1
 ·intro w0 hb
  have hs:=hb.size
  refine((h.later hb).putBad x ((hx.below hb).mono hs) ho hN hnk (Nat.le_trans hbw hs) hc).mono ?_
  rintro e w1 ⟨rfl,hb1⟩
  exact⟨(0,0),_,rfl,⟨hb1.size,fun b _ _ h3=>hb1.block b h3⟩,rfl,hb1⟩
 ·rintro v w0 w1 ⟨e,_⟩
  exact absurd e.symm hc
 ·rintro e w' ⟨h1,h2⟩
  by_cases h20:20<=vs.length
  ·obtain⟨rfl,hb⟩:=h1 h20
   exact⟨by rw[if_pos (by omega)],hb⟩
  ·obtain⟨v,e1,w0,w1,rfl,hb,⟨rfl,hb1⟩,h3,_⟩:=h2 (by omega)
   have hs:=hb.size
   exact⟨by rw[if_neg (by omega)],(hb.trans (hb1.mono hs)).trans ((h3 hc).mono (by have:=hb1.size;omega))⟩
end
def jC (n:Nat) (x:Tm n) (room:Int) (s:Tc) (ms:List Tc):Int:=if 20<=ms.length then 2 else if aQ n x≠0 then aQ n x else if av n x=false then 5 else if ((s::ms).map (sz 13)).sum+sz n x<=room then 0 else 6
theorem M6 {l:List Tc} (h:∀y∈l,aQ 13 y=0):((l.map (cn 13)).map (sz 13)).sum=(l.map (sz 13)).sum:=by
 rw[List.map_map]
 congr 1
 exact List.map_congr_left fun y hy=>FH (h y hy)
section
variable {base pb:Nat} {name:ByteArray} {room:Int} {n:Nat} {s:Tc} {ms:List Tc} {nk:Nat} {M:Nat->Prop} {w:World} {ws:List Wd} {nm:List ByteArray} {sv:Wd} {vs:List Wd} {ma:Option Addr} {mc:Nat} {Mh:Nat->Prop}
theorem PrAt.deliverC (h:PrAt base pb name room 13 s ms [] nk M w ws nm sv vs ma mc Mh) (x:Tm (n+1)) (hx:In w.heap.size w (n+1) x) (ho:Off (fun b=>¬M b) (n+1) x) (hN:(nodes (n+1) x).length<=2097152) (hM:∀b,M b->b<w.heap.size) (hnk:nk<=49000) (h20:ms.length<=999) (hbw:base<=w.heap.size):
    Calls Tryz.prog 64 #[.pointer (some ⟨pb,0,none⟩),val (n+1) x] w fun e w'=>e=.returned (.int .i64 (jC (n+1) x room (cn 13 s) (ms.map (cn 13))))/\Hid (∃ms' ws' nm' sv' vs' ma' mc' Mh',PrAt base pb name room 13 s ms' [] (nk+201) (fun b=>M b∨w.heap.size<=b) w' ws' nm' sv' vs' ma' mc' Mh'/\Keep M w w'/\ms'.map (cn 13)=if jC (n+1) x room (cn 13 s) (ms.map (cn 13))=0 then ms.map (cn 13)++ [cn (n+1) x]else ms.map (cn 13)):=by
 have hok:∀y∈s::ms,aQ 13 y=0:=fun y hy=>((h.front (N:=12)).2.2.1 y hy).1
 have hsum:((cn 13 s::ms.map (cn 13)).map (sz 13)).sum=((s::ms).map (sz 13)).sum:=M6 hok
 by_cases hc:aQ (n+1) x=0
 ·have hr:ai ⟨n+1,x⟩:=ax.2 (aN.1 hc).1
  have hd:dU (n+1) x<13:=by have:=(aN.1 hc).2.1;omega
  have hs:=iH 13 (n+1) x hr hd
  have hch:aQ 13 (lift 13 (n+1) x)=0:=(aX hs).trans hc
  have hd1:=h.deliver (N:=12) (lift 13 (n+1) x) (qN 13 (n+1) x _ _ hr hd hx) (ut 13 (n+1) x _ hr hd ho) (dS hch) hM hnk h20 hbw
  have hE:yP 13 (lift 13 (n+1) x) room s ms=jC (n+1) x room (cn 13 s) (ms.map (cn 13)):=by
   unfold yP jC rX
   rw[hsum,List.length_map,hch,hc,bD _ _ _ _ hs,jX _ _ _ _ hs]
  have hv:val (12+1) (lift (12+1) (n+1) x)=val (n+1) x:=zL 12 n x
  rw[hv]at hd1
  refine hd1.mono ?_
  rintro e w' ⟨rfl,H⟩
  obtain⟨ws',nm',sv',vs',ma',mc',Mh',h1,hk⟩:=H.out
  refine⟨congrArg (fun u=>Ending.returned (.int .i64 u)) hE,_,ws',nm',sv',vs',ma',mc',Mh',h1,hk, ?_⟩
  have hE':yP (12+1) (lift (12+1) (n+1) x) room s ms=jC (n+1) x room (cn 13 s) (ms.map (cn 13)):=hE
  rw[hE']
  by_cases h0:jC (n+1) x room (cn 13 s) (ms.map (cn 13))=0
  ·rw[if_pos h0,if_pos h0,List.map_append]
   congr 1
   exact congrArg (fun t=> [t]) (fQ hs)
  ·rw[if_neg h0,if_neg h0]
 ·have hE:jC (n+1) x room (cn 13 s) (ms.map (cn 13))=if 20<=ms.length then 2 else aQ (n+1) x:=by
    unfold jC
    rw[List.length_map,if_pos hc]
  have h0:jC (n+1) x room (cn 13 s) (ms.map (cn 13))≠0:=by
   rw[hE]
   split
   ·decide
   ·exact hc
  refine(h.deliverBad (N:=12) x hx ho hN hnk hbw hc).mono ?_
  rintro e w' ⟨rfl,hb⟩
  refine⟨by rw[hE],ms,ws,nm,sv,vs,ma,mc,Mh,(h.later (N:=12) hb).mono (N:=12) (fun b q=>Or.inl q) (by omega),aD hb M, ?_⟩
  rw[if_neg h0]
end
theorem Lr {n:Nat} {x:Tm (n+1)} (room:Int) (name:ByteArray) (hc:aQ (n+1) x=0):eD 13 (lift 13 (n+1) x) room name=eD (n+1) x room name:=by
 have hr:ai ⟨n+1,x⟩:=ax.2 (aN.1 hc).1
 have hd:dU (n+1) x<13:=by have:=(aN.1 hc).2.1;omega
 have hs:=iH 13 (n+1) x hr hd
 unfold eD iB
 rw[aX hs,bD _ _ _ _ hs,jX _ _ _ _ hs]
theorem Qa (n:Nat) (x:Tm (n+1)) (room:Int) (name:ByteArray) (w:World) (hsz:name.size<=9223372036854775807) (hx:In w.heap.size w (n+1) x) (hN:(nodes (n+1) x).length<=2097152):
    Calls Tryz.prog 28 #[.string name,val (n+1) x,.int .i64 room] w fun e w'=>(eD (n+1) x room name≠0->e=.returned (.tuple #[.pointer none,.int .i64 (eD (n+1) x room name)])/\Below w.heap.size w w')/\
     (eD (n+1) x room name=0->∃pb,e=.returned (.tuple #[.pointer (some ⟨pb,0,none⟩),.int .i64 0])/\Hid (w.heap.size<=pb/\Below w.heap.size w w'/\aQ (n+1) x=0/\∃s ws nm sv Mh,cn 13 s=cn (n+1) x/\PrAt w.heap.size pb name room 13 s [] [] 201 (fun b=>w.heap.size<=b/\b<w'.heap.size) w' ws nm sv [] none 0 Mh)):=by
 by_cases hc:aQ (n+1) x=0
 ·have hr:ai ⟨n+1,x⟩:=ax.2 (aN.1 hc).1
  have hd:dU (n+1) x<13:=by have:=(aN.1 hc).2.1;omega
  have hs:=iH 13 (n+1) x hr hd
  have hch:aQ 13 (lift 13 (n+1) x)=0:=(aX hs).trans hc
  have h:=AU 12 (lift 13 (n+1) x) room name w hsz (qN 13 (n+1) x _ _ hr hd hx) (dS hch)
  have hv:val (12+1) (lift (12+1) (n+1) x)=val (n+1) x:=zL 12 n x
  rw[hv]at h
  refine h.mono ?_
  rintro e w' ⟨h1,h2⟩
  have he:eD (12+1) (lift (12+1) (n+1) x) room name=eD (n+1) x room name:=Lr room name hc
  rw[he]at h1 h2
  refine⟨h1,fun h0=> ?_⟩
  obtain⟨pb,rfl,H⟩:=h2 h0
  obtain⟨k1,k2,ws,nm,sv,Mh,k3⟩:=H.out
  exact⟨pb,rfl,k1,k2,hc,_,ws,nm,sv,Mh,fQ hs,k3⟩
 ·refine(AU n x room name w hsz hx hN).mono ?_
  rintro e w' ⟨h1,h2⟩
  refine⟨h1,fun h0=> ?_⟩
  unfold eD at h0
  split at h0
  ·cases h0
  ·split at h0
   ·cases h0
   ·unfold iB at h0
    rw[if_pos hc]at h0
    exact absurd h0 hc
def P1 (B0 pb:Nat) (name:ByteArray) (room:Int) (cs:Tc) (cms:List Tc) (k:Nat) (M:Nat->Prop) (w:World):Prop:=
 ∃base s ms ws nm sv vs ma mc Mh,PrAt base pb name room 13 s ms [] k M w ws nm sv vs ma mc Mh/\(cn 13 s=cs/\ms.map (cn 13)=cms)/\base<=w.heap.size/\∀b,M b->B0<=b/\b<w.heap.size
section
variable {B0 pb:Nat} {name:ByteArray} {room:Int} {cs:Tc} {cms:List Tc} {k:Nat} {M:Nat->Prop} {w:World}
theorem P1.later (h:P1 B0 pb name room cs cms k M w) {w1:World} (hb:Below w.heap.size w w1):P1 B0 pb name room cs cms k M w1:=by
 obtain⟨base,s,ms,ws,nm,sv,vs,ma,mc,Mh,h1,h2,h3,h4⟩:=h
 have hs:=hb.size
 exact⟨base,s,ms,ws,nm,sv,vs,ma,mc,Mh,h1.later (N:=12) hb,h2,by omega,fun b q=>⟨(h4 b q).1,by have:=(h4 b q).2;omega⟩⟩
theorem P1.kept (h:P1 B0 pb name room cs cms k M w) {S:Nat->Prop} {w1:World} (hk:Keep S w w1) (hd:∀b,M b->¬S b):P1 B0 pb name room cs cms k M w1:=by
 obtain⟨base,s,ms,ws,nm,sv,vs,ma,mc,Mh,h1,h2,h3,h4⟩:=h
 have hs:=hk.size
 exact⟨base,s,ms,ws,nm,sv,vs,ma,mc,Mh,h1.kept (N:=12) hk fun b q _=>hd b q,h2,by omega,fun b q=>⟨(h4 b q).1,by have:=(h4 b q).2;omega⟩⟩
def mM (M:Nat->Prop) (w w':World) (b:Nat):Prop:=(M b∨w.heap.size<=b)/\b<w'.heap.size
theorem P1.deliver (h:P1 B0 pb name room cs cms k M w) {n:Nat} (x:Tm (n+1)) (hx:In w.heap.size w (n+1) x) (ho:Off (fun b=>¬M b) (n+1) x) (hN:(nodes (n+1) x).length<=2097152) (hk:k<=49000) (h20:cms.length<=999) (hB:B0<=w.heap.size):
    Calls Tryz.prog 64 #[.pointer (some ⟨pb,0,none⟩),val (n+1) x] w fun e w'=>e=.returned (.int .i64 (jC (n+1) x room cs cms))/\Hid (Keep M w w'/\P1 B0 pb name room cs (if jC (n+1) x room cs cms=0 then cms++ [cn (n+1) x]else cms) (k+201) (mM M w w') w'):=by
 obtain⟨base,s,ms,ws,nm,sv,vs,ma,mc,Mh,h1,⟨rfl,rfl⟩,h3,h4⟩:=h
 refine(h1.deliverC x hx ho hN (fun b q=>(h4 b q).2) hk (by simpa using h20) h3).mono ?_
 rintro e w' ⟨rfl,H⟩
 obtain⟨ms',ws',nm',sv',vs',ma',mc',Mh',h5,h6,h7⟩:=H.out
 refine⟨rfl,h6,base,s,ms',ws',nm',sv',vs',ma',mc',_,h5.inside (N:=12),⟨rfl,h7⟩,Nat.le_trans h3 h6.size,fun b q=>⟨?_,q.2⟩⟩
 rcases q.1 with z|z
 ·exact(h4 b z).1
 ·omega
theorem P1.state (h:P1 B0 pb name room cs cms k M w) (hk:k<=50000):
    Calls Tryz.prog 31 #[.pointer (some ⟨pb,0,none⟩)] w fun e w'=>∃y:Tc,e=.returned (val 13 y)/\Hid (Below w.heap.size w w'/\In w'.heap.size w' 13 y/\Off (fun q=>w.heap.size<=q) 13 y/\aQ 13 y=0/\cn 13 y=cs):=by
 obtain⟨base,s,ms,ws,nm,sv,vs,ma,mc,Mh,h1,⟨rfl,rfl⟩,h3,h4⟩:=h
 have h0:=(h1.front (N:=12)).2.2.1 s (by simp)
 refine(h1.state (N:=12) hk).mono ?_
 rintro e w' ⟨y,rfl,H⟩
 obtain⟨y1,y2,y3,y4⟩:=H.out
 exact⟨y,rfl,y1,y2,y3,(aX y4).trans h0.1,fQ y4⟩
section
variable {B0 pb:Nat} {name:ByteArray} {room:Int} {cs:Tc} {cms:List Tc} {k:Nat} {M:Nat->Prop} {w:World}
theorem P1.mono (h:P1 B0 pb name room cs cms k M w) {M':Nat->Prop} {k' B1:Nat} (hM:∀b,M b->M' b) (hk:k<=k') (hb:∀b,M' b->B1<=b/\b<w.heap.size):P1 B1 pb name room cs cms k' M' w:=by
 obtain⟨base,s,ms,ws,nm,sv,vs,ma,mc,Mh,h1,h2,h3,_⟩:=h
 exact⟨base,s,ms,ws,nm,sv,vs,ma,mc,Mh,h1.mono (N:=12) hM hk,h2,h3,hb⟩
def QC (B0 pb:Nat) (name:ByteArray) (room:Int) (cs:Tc) (cms:List Tc) (k:Nat) (M:Nat->Prop) (n:Nat) (l:List (Bh (n+1))) (self next:Int) (w:World) (e:Ending) (w':World):Prop:=
 (∃u,e=.returned (.tuple #[M3,.int .i64 u])/\Hid (u≠0/\u=qQ n room l name self next cs cms/\Below w.heap.size w w'))∨
  ∃(y:Tc) (f:Int) (sa:Option Addr) (sl sc:Nat) (pa:Option Addr) (pl pc:Nat) (ka:Option Addr) (kl kc:Nat),e=.returned (.tuple #[Py y.1.1 y.1.2.1 y.1.2.2 y.2.1.1 y.2.2.length y.2.1.2 f sa sl sc pa pl pc ka kl kc,.int .i64 0])/\Hid (∃tk L,qQ n room l name self next cs cms=0/\mh room l name self next cs cms=some tk/\f=tk.fate/\cn 13 y=tk.message/\aQ 13 y=0/\In w'.heap.size w' 13 y/\Off (fun q=>w.heap.size<=q/\q<L) 13 y/\Keep M w w'/\w.heap.size<L/\
   P1 B0 pb name room tk.state tk.mail (k+402) (fun b=>(M b∨L<=b)/\b<w'.heap.size) w'/\tk.mail.length<=cms.length/\TkRows (w.heap.size+1) tk.sends tk.spawns tk.links sa sl sc pa pl pc ka kl kc (fun _=>True) w')
theorem P1.step (h:P1 B0 pb name room cs cms k M w) {n:Nat} (l:List (Bh (n+1))) (la:Option Addr) (lc B:Nat) (hl:PgIn (n+1) B w la l) (hB:B<=w.heap.size) (hlc:l.length<=lc) (hmx:lc<=maxLen) (hN:iZ (n+1) l=true->(nodes (n+6) (bM n l)).length<=2097152) (hPg:∀W,Kee M w W->PgIn (n+1) B W la l) (hB0:B0<=w.heap.size) (hk:k<=47000) (h20:cms.length<=999) (self next:Int):
    Calls Tryz.prog 34 #[.pointer (some ⟨pb,0,none⟩),.slice la l.length lc,.int .i64 self,.int .i64 next] w (QC B0 pb name room cs cms k M n l self next w):=by
 obtain⟨base,s,ms,ws,nm,sv,vs,ma,mc,Mh,h1,⟨rfl,rfl⟩,h3,h4⟩:=h
 refine(h1.step l la lc B hl hB hlc hmx hN (fun b q=>(h4 b q).2) hPg hk (by simpa using h20) h3 self next).mono ?_
 rintro e w' (⟨u,rfl,H⟩|⟨y,f,sa,sl,sc,pa,pl,pc,ka,kl,kc,rfl,H⟩)
 ·exact Or.inl ⟨u,rfl,H.out⟩
 ·obtain⟨tk,i,L,a1,a2,a3,a4,a5,a6,a7,a8,a9,⟨s',ws',nm',sv',vs',ma',mc',Mh',b1,b2,b3⟩,a10⟩:=H.out
  refine Or.inr ⟨y,f,sa,sl,sc,pa,pl,pc,ka,kl,kc,rfl,tk,L,a1,a2,a3,a4,a5,a6,a7,a8,a9,⟨base,s',_,ws',nm',sv',vs',ma',mc',_,b1.inside (N:=12),⟨b2,b3⟩,Nat.le_trans h3 a8.size,fun b q=>⟨?_,q.2⟩⟩, ?_,a10⟩
  ·rcases q.1 with z|z
   ·exact(h4 b z).1
   ·omega
  ·rw[<-b3,List.length_map,List.length_map]
   exact List.length_eraseIdx_le ms i
end
theorem P1.new (n:Nat) (x:Tm (n+1)) (room:Int) (name:ByteArray) (w:World) (hsz:name.size<=9223372036854775807) (hx:In w.heap.size w (n+1) x) (hN:(nodes (n+1) x).length<=2097152):
    Calls Tryz.prog 28 #[.string name,val (n+1) x,.int .i64 room] w fun e w'=>∃p:Option Addr,e=.returned (.tuple #[.pointer p,.int .i64 (eD (n+1) x room name)])/\Hid (Below w.heap.size w w'/\(eD (n+1) x room name≠0->p=none)/\(eD (n+1) x room name=0->∃pb,p=some ⟨pb,0,none⟩/\w.heap.size<=pb/\aQ (n+1) x=0/\P1 w.heap.size pb name room (cn (n+1) x) [] 201 (fun b=>w.heap.size<=b/\b<w'.heap.size) w')):=by
 refine(Qa n x room name w hsz hx hN).mono ?_
 rintro e w' ⟨h1,h2⟩
 by_cases h0:eD (n+1) x room name=0
 ·obtain⟨pb,rfl,H⟩:=h2 h0
  obtain⟨k1,k2,k3,s,ws,nm,sv,Mh,k4,k5⟩:=H.out
  exact⟨some ⟨pb,0,none⟩,by rw[h0],k2,fun q=>absurd h0 q,fun _=>⟨pb,rfl,k1,k3,w.heap.size,s,[],ws,nm,sv,[],none,0,Mh,k5,⟨k4,rfl⟩,k2.size,fun b q=>q⟩⟩
 ·obtain⟨rfl,hb⟩:=h1 h0
  exact⟨none,rfl,hb,fun _=>rfl,fun q=>absurd q h0⟩
structure BL where
 b:Nat
 o:Nat
 c:Array Value
 t:TypeId
def BxM (p:BL) (mo:Option Nat) (w:World):Prop:=(p.o<p.c.size/\p.t≠30)/\w.heap[p.b]? =some (.cells (p.c.setIfInBounds p.o (.map mo)) p.t (0,0))
theorem BxM.cell {p:BL} {mo:Option Nat} {w:World} (h:BxM p mo w):w.cell? ⟨p.b,p.o,none⟩=some (.map mo)/\∀j,w.frozen? ⟨p.b,j,none⟩=false:=by
 refine⟨?_,fun j=>by simp[World.frozen?,h.2]⟩
 simp[World.cell?,h.2,h.1.1]
theorem BxM.lt {p:BL} {mo:Option Nat} {w:World} (h:BxM p mo w):p.b<w.heap.size:=(Array.getElem?_eq_some_iff.1 h.2).1
theorem BxM.kept {p:BL} {mo:Option Nat} {w w':World} (h:BxM p mo w) (hb:w'.heap[p.b]? =w.heap[p.b]?):BxM p mo w':=⟨h.1,hb.trans h.2⟩
theorem BxM.set {p:BL} {mo mo':Option Nat} {w:World} (h:BxM p mo w):BxM p mo' (w.setCell ⟨p.b,p.o,none⟩ (.map mo')):=by
 refine⟨h.1, ?_⟩
 simp[World.setCell,Array.getElem?_modify,h.2]
def WyAt (base:Nat) (wp:BL) (mo:Option Nat) (n N:Nat) (f:Int×Int->List (Tm N)) (sl:Int×Int->Value) (w:World):Prop:=
 base<=wp.b/\BxM wp mo w/\((mo=none/\f=(fun _=> [])/\sl=fun _=>kL)∨∃mb,mo=some mb/\GM base mb n N f sl w)
def pW (wp:BL) (mo:Option Nat) (sl:Int×Int->Value) (b:Nat):Prop:=b=wp.b∨mo=some b∨∃k,I2 k/\(sl k).ownBlock=some b
variable {base n N:Nat} {wp:BL} {mo:Option Nat} {f:Int×Int->List (Tm N)} {sl:Int×Int->Value} {w:World}
theorem WyAt.lt (h:WyAt base wp mo n N f sl w) (b:Nat) (hb:pW wp mo sl b):base<=b/\b<w.heap.size:=by
 obtain⟨h1,h2,h3⟩:=h
 rcases hb with rfl|hb
 ·exact⟨h1,h2.lt⟩
 ·rcases h3 with⟨rfl,_,rfl⟩|⟨mb,rfl,hg⟩
  ·rcases hb with hb|⟨k,_,hb⟩
   ·cases hb
   ·simp[kL,Value.ownBlock]at hb
  ·refine hg.lt b ?_
   rcases hb with hb|hb
   ·exact Or.inl (Option.some.inj hb).symm
   ·exact Or.inr hb
theorem FX {wp:BL} {mb b:Nat} {sl:Int×Int->Value} (h:OA mb sl b):pW wp (some mb) sl b:=by
 rcases h with rfl|h
 ·exact Or.inr (Or.inl rfl)
 ·exact Or.inr (Or.inr h)
theorem WyAt.kee {S:Nat->Prop} {w':World} (h:WyAt base wp mo n N f sl w) (k:Kee S w w') (hS:∀b,pW wp mo sl b->¬S b):WyAt base wp mo n N f sl w':=by
 have hl:=(h.lt wp.b (Or.inl rfl)).2
 obtain⟨h1,h2,h3⟩:=h
 refine⟨h1,h2.kept (k.block wp.b hl (hS wp.b (Or.inl rfl))), ?_⟩
 rcases h3 with h3|⟨mb,rfl,hg⟩
 ·exact Or.inl h3
 ·exact Or.inr ⟨mb,rfl,hg.kee k fun b hb=>hS b (FX hb)⟩
theorem WyAt.later {w':World} (h:WyAt base wp mo n N f sl w) (k:Below w.heap.size w w'):WyAt base wp mo n N f sl w':=h.kee (aj k fun _=>False) fun _ _ hf=>hf
theorem WyAt.row (h:WyAt base wp mo n N f sl w) {k:Int×Int} (hk:I2 k):TRow base N (sl k) (f k) w:=by
 rcases h.2.2 with⟨_,rfl,rfl⟩|⟨mb,_,hg⟩
 ·exact⟨by simp[bS,bJ],Or.inl ⟨rfl,rfl⟩⟩
 ·exact hg.row k hk
theorem WyAt.look (h:WyAt base wp mo n N f sl w) {k:Int×Int} (hk:I2 k):(Instr.lookup 65 (.map mo) (pk k) false).run Tryz.prog w=.ok (sl k) w:=by
 rcases h.2.2 with⟨rfl,_,rfl⟩|⟨mb,rfl,hg⟩
 ·exact G9 w hk
 ·exact hg.look hk
theorem WyAt.cell (h:WyAt base wp mo n N f sl w):w.cell? ⟨wp.b,wp.o,none⟩=some (.map mo)/\∀j,w.frozen? ⟨wp.b,j,none⟩=false:=by
 exact h.2.1.cell
theorem TRow.sliced {v:Value} {l:List (Tm N)} (h:TRow base N v l w):∃a c,v=.slice a l.length c:=by
 rcases h.2 with⟨rfl,e⟩|⟨g,cap,cur,rfl,_⟩
 ·exact⟨none,0,by rw[e]⟩
 ·exact⟨_,_,rfl⟩
theorem Hm (h:WyAt base wp mo n N f sl w) {a b:Int} (hk:I2 (a,b)):Calls Tryz.prog 108 #[.pointer (some ⟨wp.b,wp.o,none⟩),.int .i64 a,.int .i64 b] w fun e w'=>e=.returned (.int .i64 (f (a,b)).length)/\w'=w:=by
 have c0:=h.cell.1
 obtain⟨sa,sc,hs⟩:=(h.row hk).sliced
 have hl:=h.look hk
 rw[hs]at hl
 unfold pk at hl
 simp only at hl
 clear h
 go_enter Tryz.func108,Tryz.ntmps108
 go_wp2_with fail
 go_ret
 exact⟨rfl,rfl⟩
theorem FP (a:Int) (w:World):Calls Tryz.prog 107 #[.int .i64 a] w fun e w'=>e=.returned (.bool (decide (1<=a) && decide (a<=99)))/\w'=w:=by
 go_enter Tryz.func107,Tryz.ntmps107
 by_cases h1:1<=a<;>by_cases h2:a<=99
 all_goals
  go_wp2_with fail
  go_ret
  simp[h1,h2]
variable {base mb n N:Nat} {f:Int×Int->List (Tm N)} {sl:Int×Int->Value} {w wr:World}
def Ent (base mb n N:Nat) (f:Int×Int->List (Tm N)) (sl:Int×Int->Value) (k:Int×Int) (st:Nat) (W W1:World):Prop:=
 ∀(w2:World) (v:Value) (l:List (Tm N)),w2.heap[mb]? =W1.heap[mb]? ->Kee (fun b=>b=mb∨(sl k).ownBlock=some b) W w2->l≠[]->TRow base N v l w2->(∀b,v.ownBlock=some b->(sl k).ownBlock=some b∨W.heap.size<=b)->
  ∃w3,(Instr.entryStore 65 (.map (some mb)) (goInt st) v).run Tryz.prog w2=.ok () w3/\GM base mb (n+1) N (upd f k l) (upd sl k v) w3/\Kee (fun b=>b=mb) w2 w3/\w3.heap.size=w2.heap.size
def QV (base mb n N:Nat) (f:Int×Int->List (Tm N)) (sl:Int×Int->Value) (k:Int×Int) (y:Tm N) (wr w6:World):Prop:=
 ∃v,GM base mb (n+1) N (upd f k (f k++ [y])) (upd sl k v) w6/\Kee (OA mb sl) wr w6/\∀b,OA mb (upd sl k v) b->OA mb sl b∨wr.heap.size<=b
theorem GM.open (h:GM base mb n N f sl wr) {k:Int×Int} (hk:I2 k) (hn:n<1000000) {W:World} (hW:Below wr.heap.size wr W):
    ∃(st:Nat) (W1:World),(Instr.mapEntry 65 (.map (some mb)) (pk k)).run Tryz.prog W=.ok (.tuple #[sl k,goInt st]) W1/\Kee (fun b=>b=mb) W W1/\W1.heap.size=W.heap.size/\Ent base mb n N f sl k st W W1:=
 (h.kee (aj hW fun _=>False) fun _ _ hf=>hf).entry hk hn
theorem Ent.done (h:GM base mb n N f sl wr) {k:Int×Int} (hk:I2 k) {st L:Nat} {W W1 W2 w5:World} (he:Ent base mb n N f sl k st W W1) (hW:Below wr.heap.size wr W) (k1:Kee (fun b=>b=mb) W W1) (hs1:W1.heap.size=W.heap.size) (hW2:Below W1.heap.size W1 W2)
    (hgr:W2.grownBy w5 (sl k).ownBlock) {g c:Nat} {y:Tm N} (hL:(f k).length=L) (ho:w5.ownsRow base 30 4 (.slice (some ⟨g,0,none⟩) (L+1) c) (L+1) (bS N (f k)++yn (gZ N y))) (hat:(sl k).ownBlock=some g∨g=W2.heap.size):
    ∃w6,(Instr.entryStore 65 (.map (some mb)) (goInt st) (.slice (some ⟨g,0,none⟩) (L+1) c)).run Tryz.prog w5=.ok () w6/\QV base mb n N f sl k y wr w6/\Kee (fun b=>b=mb) w5 w6/\w6.heap.size=w5.heap.size:=by
 subst hL
 have hmb:=h.lt mb (Or.inl rfl)
 have hsW:=hW.size
 have hs2:=hW2.size
 have kg:=cO hgr
 have hv:(Value.slice (some ⟨g,0,none⟩) ((f k).length+1) c).ownBlock=some g:=rfl
 have hloc:∀b,(Value.slice (some ⟨g,0,none⟩) ((f k).length+1) c).ownBlock=some b->(sl k).ownBlock=some b∨W.heap.size<=b:=fun b hb=>by
  rw[hv]at hb
  injection hb with hb
  subst hb
  rcases hat with e|e
  ·exact Or.inl e
  ·exact Or.inr (by omega)
 have hKW:Kee (fun b=>b=mb∨(sl k).ownBlock=some b) W w5:=by
  refine Kee.trans (Kee.trans (k1.mono fun b _ e=>Or.inl e) (aj hW2 fun _=>False) fun _ _ hf=>hf.elim) kg fun b _ e=>Or.inr e
 have hmb5:w5.heap[mb]? =W1.heap[mb]? :=(kg.block mb (by omega) (h.ne hk)).trans (hW2.block mb (by omega))
 obtain⟨w6,hr,hG,hk6,hs6⟩:=he w5 _ (f k++ [y]) hmb5 hKW (by simp) (by
  unfold TRow
  rw[nZ,List.length_append]
  have e:bS N [y]=yn (gZ N y):=by simp[bS,bJ]
  rw[e]
  exact ho) hloc
 refine⟨w6,hr,⟨_,hG, ?_,fun b hb=> ?_⟩,hk6,hs6⟩
 ·refine Kee.trans (Kee.trans (aj hW _) (hKW.mono (T:=fun b=>b=mb∨(sl k).ownBlock=some b) fun b _ e=>e) fun b _ e=> ?_) hk6 fun b _ e=>Or.inl e
  rcases e with e|e
  ·exact Or.inl e
  ·exact Or.inr ⟨k,hk,e⟩
 ·rcases hb with hb|⟨j,hj,hb⟩
  ·exact Or.inl (Or.inl hb)
  ·by_cases e:j=k
   ·subst e
    rw[upd_same]at hb
    rcases hloc b hb with e|e
    ·exact Or.inl (Or.inr ⟨j,hj,e⟩)
    ·exact Or.inr (by omega)
   ·rw[aS _ _ e]at hb
    exact Or.inl (Or.inr ⟨j,hj,hb⟩)
section
variable {ops:Array Oper} {o:Oper} {a:Act} {K:Act->World->Prop} {Q:Exit->Act->World->Prop} {E:Prop}
end Go.Proofs.YtmbjgiaebneodaaGreat
