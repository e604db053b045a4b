/- What is proved here: plain facts and contracts that the claimed theorem stands on. No condition but those that each names. -/
import Derived.Test.YtbknffhilfoakaaGreatG28
namespace Go.Proofs.YtbknffhilfoakaaGreat
open Go.RowKit
set_option maxHeartbeats 2000000
set_option maxRecDepth 100000
theorem Ff {α β:Type} {l r:List α} (h:List.Sublist l r) (f:α->List β):List.Sublist (l.flatMap f) (r.flatMap f):=by
 induction h with
 | slnil=>exact List.Sublist.refl _
 | cons a _ ih=>
  simp only[List.flatMap_cons]
  exact ih.trans (List.sublist_append_right _ _)
 | cons_cons a _ ih=>
  simp only[List.flatMap_cons]
  exact List.Sublist.append (List.Sublist.refl _) ih
theorem IK {α:Type} {l r:List α} (h:List.Sublist l r) (f:α->Int) (h0:∀a,0<=f a):(l.map f).sum<=(r.map f).sum:=by
 induction h with
 | slnil=>exact Int.le_refl _
 | cons a _ ih=>
  simp only[List.map_cons,List.sum_cons]
  have:=h0 a
  omega
 | cons_cons a _ ih=>
  simp only[List.map_cons,List.sum_cons]
  omega
theorem PHas.erase {N:Nat} {ws:List Wd} {nm:List ByteArray} {room:Int} {sv:Wd} {vs:List Wd} {s:Tm (N+1)} {ms:List (Tm (N+1))} (h:PHas (N+1) ws nm room (sv::vs) (s::ms)) (i:Nat):PHas (N+1) ws nm room (sv::vs.eraseIdx i) (s::ms.eraseIdx i):=by
 obtain⟨k1,k2,k3,k4,k5,k6,k7,k8⟩:=h
 have hl:vs.length=ms.length:=by simpa using k1.1
 have hs:List.Sublist (sv::vs.eraseIdx i) (sv::vs):=(List.eraseIdx_sublist vs i).cons_cons sv
 have ht:List.Sublist (s::ms.eraseIdx i) (s::ms):=(List.eraseIdx_sublist ms i).cons_cons s
 refine⟨⟨by simp[List.length_eraseIdx,hl],fun j v y hv hy=> ?_⟩,(Ff hs _).nodup k2,fun y hy=>k3 y (ht.subset hy), ?_,k5,k6,k7,k8⟩
 ·cases j with
  | zero=>
   simp only[List.getElem?_cons_zero,Option.some.injEq]at hv hy
   exact k1.2 0 v y (by simp[hv]) (by simp[hy])
  | succ j=>
   simp only[List.getElem?_cons_succ,List.getElem?_eraseIdx]at hv hy
   by_cases hj:j<i
   ·rw[if_pos hj]at hv hy
    exact k1.2 (j+1) v y (by simpa using hv) (by simpa using hy)
   ·rw[if_neg hj]at hv hy
    exact k1.2 (j+2) v y (by simpa using hv) (by simpa using hy)
 ·have:=IK ht (sz (N+1)) fun a=>(bD (N+1) a).1
  omega
section
variable {base pb:Nat} {name:ByteArray} {room:Int} {N:Nat} {s:Tm (N+1)} {ms:List (Tm (N+1))} {nk:Nat} {M:Nat->Prop} {w:World} {ws:List Wd} {nm:List ByteArray} {sv:Wd} {vs:List Wd} {ma:Option Addr} {mc:Nat} {Mh:Nat->Prop}
theorem PrAt.dropped (h:PrAt base pb name room (N+1) s ms [] nk M w ws nm sv vs ma mc Mh) (i:Nat) {w1:World} {g:Nat} (hng:¬Mh g) (hk:Kee (fun b=>b=g) w w1) (hm:MailAt Mh ma (vs.eraseIdx i) mc w1) (hgM:M g):
    PrAt base pb name room (N+1) s (ms.eraseIdx i) [] nk M (w1.setCell ⟨pb,7,none⟩ (.slice ma (vs.eraseIdx i).length mc)) ws nm sv (vs.eraseIdx i) ma mc Mh/\Keep M w (w1.setCell ⟨pb,7,none⟩ (.slice ma (vs.eraseIdx i).length mc)):=by
 obtain⟨hpb,hpl⟩:=h.box0
 have h1:HpAt base (PL pb name sv (.slice ma vs.length mc)) room ws nm Mh w1:=h.heap.kept (iq hk) fun b hb _ q=>hng (by rw[<-q];exact hb)
 have k:=aI w1 pb 7 (.slice ma (vs.eraseIdx i).length mc)
 have hh:=h.has
 simp only[List.map_nil,List.append_nil]at hh
 refine⟨⟨h1.turn k fun tv lv mp hc=> ?_, ?_, ?_, ?_,h.names,h.inM,h.mailM⟩, ?_⟩
 ·unfold World.setCell
  simp[Array.getElem?_modify,hc]
 ·rcases hm with e|⟨g',mo,cur,e1,e2,e3,e4⟩
  ·exact Or.inl e
  ·exact Or.inr ⟨g',mo,cur,e1,e2,(k.block g' (Array.getElem?_eq_some_iff.1 e3).1 fun e=>e2 (by rw[e];exact hpb)).trans e3,e4⟩
 ·simp only[List.map_nil,List.append_nil]
  exact hh.erase i
 ·simp[List.length_eraseIdx,h.len]
 ·refine Keep.trans ((iq hk).mono fun b q=> ?_) k fun b _ q=> ?_
  ·rw[q]
   exact hgM
  ·rw[q]
   exact h.inM pb hpb
theorem PrAt.delete (h:PrAt base pb name room (N+1) s ms [] nk M w ws nm sv vs ma mc Mh) (i:Nat) (hi:i<ms.length) (h20:ms.length<=1000):
    Calls Tryz.prog 39 #[.slice ma vs.length mc,.int .i64 i,.int .i64 ((i:Int)+1)] w fun e w'=>e=.returned (.slice ma (vs.eraseIdx i).length mc)/\Hid (Kee M w w'/\w'.cell? ⟨pb,7,none⟩=some (.slice ma vs.length mc)/\w'.frozen? ⟨pb,7,none⟩=false/\
     PrAt base pb name room (N+1) s (ms.eraseIdx i) [] nk M (w'.setCell ⟨pb,7,none⟩ (.slice ma (vs.eraseIdx i).length mc)) ws nm sv (vs.eraseIdx i) ma mc Mh/\Keep M w (w'.setCell ⟨pb,7,none⟩ (.slice ma (vs.eraseIdx i).length mc))):=by
 have hl:=h.len
 obtain⟨hpb,hpl⟩:=h.box0
 have hel:(vs.eraseIdx i).length=vs.length-1:=by rw[List.length_eraseIdx,if_pos (by omega)]
 rcases h.mail with⟨_,e,_⟩|⟨g,mo,cur,rfl,e2,e3,e4,e5,e6,e7⟩
 ·rw[e]at hl
  simp at hl
  omega
 ·refine(wo g mo mc i vs cur w (by omega) e3 e4 (by omega) e6 e7).mono ?_
  rintro e w' ⟨rfl,H⟩
  obtain⟨hk,hsz,cur',c1,c2,c3⟩:=H.out
  have hgM:=h.mailM _ rfl
  have hne:¬pb=g:=fun e=>e2 (by rw[<-e];exact hpb)
  obtain⟨tv,lv,mv,hb,_⟩:=h.heap.box
  obtain⟨_,_,_,c7,cf,_⟩:=PL.cells hb
  have hd:=h.dropped i (w1:=w') (g:=g) e2 hk (Or.inr ⟨g,mo,cur',rfl,e2,c1,by omega,e5,by omega,by rw[hel];exact c3⟩) hgM
  refine⟨by rw[hel],hk.mono fun b _ e=>by rw[e];exact hgM,(hk.cell 7 hpl hne).trans c7, ?_,hd⟩
  have hf:=cf 7
  unfold World.frozen? at hf ⊢
  rw[hk.block pb hpl hne]
  exact hf
end
def kV (n:Nat) (room:Int) (l:List (Bh (n+1))) (name:ByteArray) (self next:Int) (s:Tc) (ms:List Tc):Int:=
 if oQ n l≠0 then oQ n l else if (decide (1<=self) && decide (self<=99) && decide (1<=next) && decide (next<=92))=false then 1 else if (gH room l name self next s ms).isSome then 0 else 4
def TkRows (b0:Nat) (sends:List (Int×Tc)) (spawns:List (Int×ByteArray×Tc)) (links:List Int) (sa:Option Addr) (sl sc:Nat) (pa:Option Addr) (pl pc:Nat) (ka:Option Addr) (kl kc:Nat) (P:Nat->Prop) (w:World):Prop:=
 ∃(N:Nat) (sd:List (Int×Tm (N+1))) (sp:List (Int×ByteArray×Tm (N+1))),(sd.length=sl/\sp.length=pl/\links.length=kl)/\w.ownsRow b0 110 5 (.slice sa sl sc) sl (sd.flatMap fun z=>Cj z.1 z.2)/\w.ownsRow b0 115 6 (.slice pa pl pc) pl (sp.flatMap fun z=>BZ z.1 z.2.1 z.2.2)/\w.ownsRow b0 3 1 (.slice ka kl kc) kl (links.map fun u=> .int .i64 u)/\
  sd.map (fun z=>(z.1,cn _ z.2))=sends/\sp.map (fun z=>(z.1,z.2.1,cn _ z.2.2))=spawns/\(∀z∈sd,aP _ z.2=0/\In w.heap.size w _ z.2/\Off (fun q=>b0<=q/\P q) _ z.2)/\(∀z∈sp,aP _ z.2.2=0/\In w.heap.size w _ z.2.2/\Off (fun q=>b0<=q/\P q) _ z.2.2)/\∀q,((Value.slice sa sl sc).ownBlock=some q∨(Value.slice pa pl pc).ownBlock=some q∨(Value.slice ka kl kc).ownBlock=some q)->b0<=q/\P q
theorem TkRows.kept {b0:Nat} {sends:List (Int×Tc)} {spawns:List (Int×ByteArray×Tc)} {links:List Int} {sa:Option Addr} {sl sc:Nat} {pa:Option Addr} {pl pc:Nat} {ka:Option Addr} {kl kc:Nat} {P:Nat->Prop} {w w':World} (h:TkRows b0 sends spawns links sa sl sc pa pl pc ka kl kc P w) {S:Nat->Prop} (hk:Kee S w w') (hS:∀q,b0<=q->P q->q<w.heap.size->¬S q):TkRows b0 sends spawns links sa sl sc pa pl pc ka kl kc P w':=by
 obtain⟨N,sd,sp,h0,h1,h2,h3,h4,h5,h6,h7,h8⟩:=h
 have hin:∀{m:Nat} {x:Tm m},In w.heap.size w m x->Off (fun q=>b0<=q/\P q) m x->In w'.heap.size w' m x:=fun hi ho=>hi.kee (hk.mono (T:=fun b=>S b/\b<w.heap.size) fun b hb q=>⟨q,hb⟩) (ho.mono fun q hq (z:S q/\q<w.heap.size)=>hS q hq.1 hq.2 z.2 z.1)
 have hrow:∀{e:TypeId} {z m:Nat} {v:Value} {xs:List Value},w.ownsRow b0 e z v m xs->(∀q,v.ownBlock=some q->b0<=q/\P q)->w'.ownsRow b0 e z v m xs:=fun{e z m v xs} hr hv=>aL hr hk fun q hq=>by
  obtain⟨cur,hcu⟩:=dA hr q hq
  exact hS q (hv q hq).1 (hv q hq).2 (Array.getElem?_eq_some_iff.1 hcu).1
 exact⟨N,sd,sp,h0,hrow h1 fun q hq=>h8 q (Or.inl hq),hrow h2 fun q hq=>h8 q (Or.inr (Or.inl hq)),hrow h3 fun q hq=>h8 q (Or.inr (Or.inr hq)),h4,h5,fun z hz=>⟨(h6 z hz).1,hin (h6 z hz).2.1 (h6 z hz).2.2,(h6 z hz).2.2⟩,fun z hz=>⟨(h7 z hz).1,hin (h7 z hz).2.1 (h7 z hz).2.2,(h7 z hz).2.2⟩,h8⟩
theorem TkRows.none (b0:Nat) (P:Nat->Prop) (w:World):TkRows b0 [] [] [] none 0 0 none 0 0 none 0 0 P w:=
 ⟨0,[],[],⟨rfl,rfl,rfl⟩,World.ownsRow_nil _ _ _ _,World.ownsRow_nil _ _ _ _,World.ownsRow_nil _ _ _ _,rfl,rfl,fun z hz=>(by cases hz),fun z hz=>(by cases hz),fun q hq=>by
  rcases hq with hq|hq|hq<;>cases hq⟩
def KL (pbase pb:Nat) (name:ByteArray) (room:Int) (s:Tc) (ms:List Tc) (nk:Nat) (M:Nat->Prop) (n:Nat) (l:List (Bh (n+1))) (self next:Int) (w:World) (e:Ending) (w':World):Prop:=
 (∃u,e=.returned (.tuple #[GV,.int .i64 u])/\Hid (u≠0/\u=kV n room l name self next (cn 13 s) (ms.map (cn 13))/\Below w.heap.size w w'))∨
  ∃(y:Tc) (f:Int) (sa:Option Addr) (sl sc:Nat) (pa:Option Addr) (pl pc:Nat) (ka:Option Addr) (kl kc:Nat),e=.returned (.tuple #[JS y.1.1 y.1.2.1 y.1.2.2 y.2.1.1 y.2.2.length y.2.1.2 f sa sl sc pa pl pc ka kl kc,.int .i64 0])/\Hid (∃tk i L,kV n room l name self next (cn 13 s) (ms.map (cn 13))=0/\gH room l name self next (cn 13 s) (ms.map (cn 13))=some tk/\f=tk.fate/\cn 13 y=tk.message/\aP 13 y=0/\In w'.heap.size w' 13 y/\Off (fun q=>w.heap.size<=q/\q<L) 13 y/\Keep M w w'/\w.heap.size<L/\
   (∃s' ws' nm' sv' vs' ma' mc' Mh',PrAt pbase pb name room 13 s' (ms.eraseIdx i) [] (nk+402) (fun q=>M q∨L<=q) w' ws' nm' sv' vs' ma' mc' Mh'/\cn 13 s'=tk.state/\(ms.eraseIdx i).map (cn 13)=tk.mail)/\TkRows (w.heap.size+1) tk.sends tk.spawns tk.links sa sl sc pa pl pc ka kl kc (fun _=>True) w')
theorem Jd {n:Nat} (room self next:Int) (s m:Tc) (ms:List Tc) (c:Cl (n+1)) (b:List Tc):cO room self next s m ms c b={cO room self next s s ms c b with message:=m}:=by
 unfold cO
 cases mE self c.2.2 ⟨b,next,[],[],[],false⟩with
 | none=>rfl
 | some d=>
  cases hv:kF d.b self (n+1) c.1.2.2 with
  | none=>simp only[hv]
  | some t=>
   simp only[hv]
   by_cases hle:(ms.map (sz 13)).sum+sz 13 t<=room
   ·simp only[if_pos hle]
   ·simp only[if_neg hle]
theorem Eh {n:Nat} {room self next:Int} {s m:Tc} {ms:List Tc} {c:Cl (n+1)} {b:List Tc} (h:¬((cO room self next s m ms c b).fate=0∨(cO room self next s m ms c b).fate=1)):(cO room self next s m ms c b).sends=[]/\(cO room self next s m ms c b).spawns=[]/\(cO room self next s m ms c b).links=[]:=by
 unfold cO at h ⊢
 cases hd:mE self c.2.2 ⟨b,next,[],[],[],false⟩with
 | none=>exact⟨rfl,rfl,rfl⟩
 | some d=>
  rw[hd]at h
  cases hv:kF d.b self (n+1) c.1.2.2 with
  | none=>simp[hv]
  | some t=>
   simp only[hv]at h ⊢
   by_cases hle:(ms.map (sz 13)).sum+sz 13 t<=room
   ·simp only[if_pos hle]at h
    cases hst:d.stops<;>simp[hst]at h
   ·simp[if_neg hle]
theorem CQ {n:Nat} (room self next:Int) (s m:Tc) (ms:List Tc) (c:Cl (n+1)) (b:List Tc):(cO room self next s m ms c b).mail=ms:=by
 unfold cO
 cases mE self c.2.2 ⟨b,next,[],[],[],false⟩with
 | none=>rfl
 | some d=>
  cases hv:kF d.b self (n+1) c.1.2.2 with
  | none=>simp only[hv]
  | some t=>
   simp only[hv]
   by_cases hle:(ms.map (sz 13)).sum+sz 13 t<=room
   ·simp only[if_pos hle]
   ·simp only[if_neg hle]
theorem BRow.keptS {D:Nat} {l:List (Tm D)} {B:List Tc} {b0:Nat} {w w':World} {bg bc:Nat} {S:Nat->Prop} (h:BRow D l B b0 w bg bc) (hk:Kee S w w') (hS:∀q,b0<=q->¬S q):BRow D l B b0 w' bg bc:=by
 obtain⟨h1,h2⟩:=h.new
 refine⟨h.bnd,h.tells,h.cap,⟨h1,Nat.lt_of_lt_of_le h2 hk.size⟩,fun i y hy=> ?_,fun j=> ?_⟩
 ·obtain⟨k1,k2,k3⟩:=h.at' i y hy
  exact⟨k1.kee hk h2 (hS bg h1),k2.kee hk (k3.mono fun r hr=>hS r hr.1),k3⟩
 ·have hf:=h.free j
  unfold World.frozen? at hf ⊢
  rw[hk.block bg h2 (hS bg h1)]
  exact hf
theorem uy {n B:Nat} {w:World} {la:Option Addr} {l:List (Bh (n+1))} (hl:PgIn (n+1) B w la l) (name:ByteArray):∃ca cL cc,Ik (n+1) (iO (n+1) name l)=.slice ca cL cc/\(eU name l).length=cL/\Lay B w 13 (jS (n+1)) (jH (n+1) B w) ca (eU name l)/\(eU name l=[]∨∃b∈l,eU name l=b.2.2):=by
 have hmem:∀(l:List (Bh (n+1))) b,iO (n+1) name l=some b->b∈l:=by
  intro l
  induction l with
  | nil=>intro b h;cases h
  | cons a l ih=>
   intro b h
   simp only[iO]at h
   split at h
   ·obtain rfl:=Option.some.inj h
    simp
   ·exact List.mem_cons_of_mem _ (ih b h)
 unfold eU
 cases hb:iO (n+1) name l with
 | none=>exact⟨none,0,0,rfl,rfl,Or.inl rfl,Or.inl rfl⟩
 | some b=>
  have hm:=hmem l b hb
  refine⟨_,_,_,rfl,rfl, ?_,Or.inr ⟨b,hm,rfl⟩⟩
  rcases hl with e|⟨q,o,e,hq,hc⟩
  ·rw[e]at hm
   cases hm
  ·obtain⟨i,hi⟩:=List.getElem?_of_mem hm
   exact((hc i b hi).2).2.2
theorem PrAt.step {pbase pb n:Nat} {name:ByteArray} {room:Int} {s:Tc} {ms:List Tc} {nk:Nat} {M:Nat->Prop} {w:World} {ws:List Wd} {nm:List ByteArray} {sv:Wd} {vs:List Wd} {ma:Option Addr} {mc:Nat} {Mh:Nat->Prop}
    (hp:PrAt pbase pb name room 13 s ms [] nk M w ws nm sv vs ma mc Mh) (l:List (Bh (n+1))) (la:Option Addr) (lc B:Nat) (hl:PgIn (n+1) B w la l) (hB:B<=w.heap.size) (hlc:l.length<=lc) (hmx:lc<=maxLen) (hN:og (n+1) l=true->(nodes (n+6) (dx n l)).length<=2097152) (hM:∀b,M b->b<w.heap.size) (hPg:∀W,Kee M w W->PgIn (n+1) B W la l) (hnk:nk<=47000) (h20:ms.length<=999) (hbw:pbase<=w.heap.size) (self next:Int):
    Calls Tryz.prog 11 #[.pointer (some ⟨pb,0,none⟩),.slice la l.length lc,.int .i64 self,.int .i64 next] w (KL pbase pb name room s ms nk M n l self next w):=by
 obtain⟨hpb,hpl⟩:=hp.box0 (N:=12)
 obtain⟨tv,lv,mv,hbx,_⟩:=hp.heap.box
 obtain⟨c0,_,_,c7,cf,_⟩:=PL.cells hbx
 obtain⟨ca,cL,cc0,hcv,hcl,hcy,hcm⟩:=uy hl name
 have hmx':lc<=9223372036854775807:=by unfold maxLen at hmx;omega
 have hclok:oQ n l=0->(∀c∈eU name l,CP c)/\(eU name l).length<=6:=fun h0=>by
  obtain⟨_,hok⟩:=BU h0
  rcases hcm with e|⟨b,hb,e⟩
  ·rw[e]
   exact⟨fun c hc=>(by cases hc),Nat.zero_le _⟩
  ·rw[e]
   exact⟨(hok b hb).2,(hok b hb).1⟩
 have himem:∀(i:Nat) (t:Tc),(ms.map (cn 13))[i]? =some t->i<ms.length:=fun i t h=>by
  have:=(List.getElem?_eq_some_iff.1 h).1
  simpa using this
 refine(DD pb name la l.length lc self next (oQ n l) ca cL cc0 w (pI (eU name l) (cn 13 s) (ms.map (cn 13)) 0=none)
  (fun i y c bg cc W0=>∃Bd D lr,Below w.heap.size w W0/\(1<=self/\self<=99/\1<=next/\next<=92)/\oQ n l=0/\pI (eU name l) (cn 13 s) (ms.map (cn 13)) 0=some (i,c,Bd)/\c∈eU name l/\(ms.map (cn 13))[i]? =some (cn 13 y)/\aP 13 y=0/\In W0.heap.size W0 13 y/\Off (fun q=>w.heap.size<q/\q≠bg) 13 y/\BRow (D+1) lr Bd (w.heap.size+1) W0 bg cc)
  (fun i y c bg cc W0=>∃Bd D lr ws' nm' sv' vs' ma' mc' Mh',PrAt pbase pb name room 13 s (ms.eraseIdx i) [] nk M W0 ws' nm' sv' vs' ma' mc' Mh'/\Keep M w W0/\(1<=self/\self<=99/\1<=next/\next<=92)/\oQ n l=0/\pI (eU name l) (cn 13 s) (ms.map (cn 13)) 0=some (i,c,Bd)/\c∈eU name l/\(ms.map (cn 13))[i]? =some (cn 13 y)/\aP 13 y=0/\In W0.heap.size W0 13 y/\Off (fun q=>w.heap.size<q/\q≠bg) 13 y/\BRow (D+1) lr Bd (w.heap.size+1) W0 bg cc)
  (fun i y c f sa sl sc pa pl pc ka kl kc W1=>∃Bd L,pI (eU name l) (cn 13 s) (ms.map (cn 13)) 0=some (i,c,Bd)/\(ms.map (cn 13))[i]? =some (cn 13 y)/\aP 13 y=0/\In W1.heap.size W1 13 y/\Off (fun q=>w.heap.size<q/\q<L) 13 y/\w.heap.size<L/\Keep M w W1/\f=(cO room self next (cn 13 s) (cn 13 s) ((ms.eraseIdx i).map (cn 13)) c Bd).fate/\
   (∃s' ws' nm' sv' vs' ma' mc' Mh',PrAt pbase pb name room 13 s' (ms.eraseIdx i) [] (nk+402) (fun q=>M q∨L<=q) W1 ws' nm' sv' vs' ma' mc' Mh'/\cn 13 s'=(cO room self next (cn 13 s) (cn 13 s) ((ms.eraseIdx i).map (cn 13)) c Bd).state)/\
   TkRows (w.heap.size+1) (cO room self next (cn 13 s) (cn 13 s) ((ms.eraseIdx i).map (cn 13)) c Bd).sends (cO room self next (cn 13 s) (cn 13 s) ((ms.eraseIdx i).map (cn 13)) c Bd).spawns (cO room self next (cn 13 s) (cn 13 s) ((ms.eraseIdx i).map (cn 13)) c Bd).links sa sl sc pa pl pc ka kl kc (fun _=>True) W1)
  _ M hpl hM (hp.inM pb hpb) rfl ?_ c0 ?_ ?_ ?_ ?_).mono ?_
 ·intro W hW
  refine(Jm n l la lc hlc hmx B W (hl.below (hW.mono hB)) (Nat.le_trans hB hW.size) hN).mono ?_
  rintro e w' ⟨y,rfl,H⟩
  exact⟨_,_,_,_,_,_,rfl,H.out.1⟩
 ·intro W _ hW
  refine(qW (n+1) name l la lc l.length B W rfl (by omega) (Nat.le_trans hB hW.size) (hl.below (hW.mono hB))).mono ?_
  rintro e w' ⟨rfl,hb⟩
  exact⟨by rw[hcv],hb⟩
 ·intro W h0 hr hW
  simp only[Bool.and_eq_true,decide_eq_true_eq]at hr
  obtain⟨hokc,hlen⟩:=hclok h0
  have hch:=Bo (hp.later (N:=12) hW) (eU name l) ca cc0 B ((ed (dK (n+1)) 13 (jS (n+1)) ca).below (hW.mono hB) hcy) (Nat.le_trans hB hW.size) hokc (by omega) (by omega) (by omega)
  rw[hcl]at hch
  refine hch.mono ?_
  rintro e w' (⟨h1,rfl,H⟩|⟨i,y,c,bg,cc,rfl,H⟩)
  ·exact Or.inl ⟨rfl,H.out,h1⟩
  ·obtain⟨Bd,D,lr,k1,k2,k3,k4,k5,k6,k7,k8⟩:=H.out
   have hsz:=hW.size
   have hn:=k8.new
   have hi:=himem i _ k3
   exact Or.inr ⟨i,y,c,bg,cc,rfl,k5,by omega,hn.2,by omega,Bd,D,lr,hW.trans (k5.mono hsz),⟨hr.1.1.1,hr.1.1.2,hr.1.2,hr.2⟩,h0,k1,k2,k3,k4,k6,k7.mono fun q hq=>⟨by omega,hq.2⟩,k8.mono (by omega)⟩
 ·rintro i y c bg cc W0 W ⟨Bd,D,lr,hb0,hrg,h0,k1,k2,k3,k4,k6,k7,k8⟩ hW
  have hbW:=hb0.trans (hW.mono hb0.size)
  have hi:=himem i _ k3
  obtain⟨tv',lv',mv',hbx',_⟩:=(hp.later (N:=12) hbW).heap.box
  obtain⟨_,_,_,c7',cf',_⟩:=PL.cells hbx'
  refine⟨ma,vs.length,mc,⟨c7',cf' 7⟩,fun W2 hW2=> ?_⟩
  have hb2:=hbW.trans (hW2.mono hbW.size)
  refine((hp.later (N:=12) hb2).delete (N:=12) i hi (by omega)).mono ?_
  rintro e w' ⟨rfl,H⟩
  obtain⟨j1,j2,j3,j4,j5⟩:=H.out
  have hs0:=hb0.size
  refine⟨ma,_,mc,rfl,j1,j2,j3,Bd,D,lr,ws,nm,sv,_,ma,mc,Mh,j4,(aC hb2 M).trans j5 fun _ _ e=>e,hrg,h0,k1,k2,k3,k4, ?_,k7, ?_⟩
  ·exact(((k6.below hW).mono hW.size |>.below hW2).mono hW2.size).kee (fV j5) (k7.mono fun q hq z=>by have:=hM q z;omega)
  ·exact((k8.keptS (aG hW (fun _=>False)) (fun _ _ e=>e)).keptS (aG hW2 (fun _=>False)) (fun _ _ e=>e)).keptS (fV j5) fun q hq z=>by have:=hM q z;omega
 ·rintro i y c bg cc W0 W db ⟨Bd,D,lr,ws',nm',sv',vs',ma',mc',Mh',hp',hkw,hrg,h0,k1,k2,k3,k4,k6,k7,k8⟩ hW hdb hbox
  obtain⟨hokc,hlen⟩:=hclok h0
  have kW:=k8.keptS (aG hW (fun _=>False)) (fun _ _ e=>e)
  have hn:=k8.new
  have hs0:=hkw.size
  have hsW:=hW.size
  have hi:=himem i _ k3
  have hdl:db<W.heap.size:=(Array.getElem?_eq_some_iff.1 hbox).1
  have hdo:DoAt (w.heap.size+1) db self n D 0 next ⟨Bd,next,[],[],[],false⟩ W lr bg cc [] [] (.slice none 0 0) (.slice none 0 0) (.slice none 0 0):=by
   refine⟨hbox,⟨by omega,by omega,hn.1,kW.new.2,by omega⟩,kW.bnd,kW.tells,fun j z hz=>⟨(kW.at' j z hz).1,(kW.at' j z hz).2.1,(In.offB (k8.at' j z hz).2.2 (k8.at' j z hz).2.1).mono fun q hq=>⟨hq.1.1,fun hw=> ?_⟩⟩,kW.free,World.ownsRow_nil _ _ _ _,World.ownsRow_nil _ _ _ _,World.ownsRow_nil _ _ _ _,rfl,rfl,fun z hz=>(by cases hz),fun z hz=>(by cases hz),⟨⟨fun e=>(by cases e),fun e=>(by cases e),fun e=>(by cases e)⟩,⟨fun e=>(by cases e),fun e=>(by cases e),fun e=>(by cases e)⟩,fun q=>⟨fun e=>(by cases e),fun e=>(by cases e)⟩⟩,⟨Nat.zero_le _,Nat.zero_le _,Nat.zero_le _,by simp,hrg.2.2.1,hrg.2.2.2⟩⟩
   rcases hw with hw|hw|hw|hw|hw
   ·have:=hq.2
    omega
   ·exact hq.1.2 hw
   ·cases hw
   ·cases hw
   ·cases hw
  have hkW:Kee M w W:=(fV hkw).trans (aG hW (fun _=>False)) fun _ _ e=>e.elim
  have hcin:jH (n+1) B W c:=by
   obtain⟨_,_,_,_,_,hcyW,_⟩:=uy (hPg W hkW) name
   rcases hcyW with e|⟨q,o,e,hq,hcc⟩
   ·rw[e]at k2
    cases k2
   ·obtain⟨j,hj⟩:=List.getElem?_of_mem k2
    exact(hcc j c hj).2
  have hcW:jH (n+1) (w.heap.size+1) W c:=(dK (n+1)).mono (by omega) hcin
  have hel:(ms.eraseIdx i).length<=999:=by
   have:=List.length_eraseIdx_le ms i
   omega
  have hf:=Ao (b:=Bd) (hp'.later (N:=12) hW) hdo rfl c hcW (hokc c k2) ⟨hrg.1,hrg.2.1⟩ (fun q z=>by have:=hM q z;omega) (by omega) (by omega) hel
  have hf2:Calls Tryz.prog 40 #[.pointer (some ⟨pb,0,none⟩),KD c,.pointer (some ⟨db,0,none⟩)] W _:=hf
  refine hf2.mono ?_
  rintro e w' ⟨f,rfl,R1,R2,⟨s',ws2,nm2,sv2,vs2,ma2,mc2,Mh2,R3,R4⟩,R5⟩
  have hdw:∀q,dh db bg (.slice none 0 0) (.slice none 0 0) (.slice none 0 0) q->q=db∨q=bg:=fun q hw=>by
   rcases hw with hw|hw|hw|hw|hw
   ·exact Or.inl hw
   ·exact Or.inr hw
   ·cases hw
   ·cases hw
   ·cases hw
  have hKM:Keep M w w':=(hkw.trans (aC hW M) fun _ _ e=>e).trans (iq R2) fun q hq z=>by
   rcases z with z|z
   ·exact z
   ·rcases hdw q z with z|z<;>omega
  have yo:=In.offB k7 k6
  have yi:In w'.heap.size w' 13 y:=((k6.below hW).mono hsW).kee R2 (yo.mono fun q hq z=>by
   rcases z with z|z
   ·have:=hM q z
    omega
   ·rcases hdw q z with z|z
    ·have:=hq.2
     omega
    ·exact hq.1.2 z)
  have yL:Off (fun q=>w.heap.size<q/\q<W.heap.size) 13 y:=yo.mono fun q hq=>⟨hq.1.1,by have:=hq.2;omega⟩
  refine⟨f,rfl,R2.mono fun q _ z=> ?_,fun h01=> ?_,fun h01=> ?_⟩
  ·rcases z with z|z
   ·exact Or.inl z
   ·exact Or.inr (hdw q z)
  ·obtain⟨d',l',bg',bc',sd',sp',sv3,pv3,lv3,D1,D2,D3,D4,_⟩:=R5 h01
   have hsr:=D1.sRow
   have hpr:=D1.pRow
   have hlr:=D1.lRow
   have hhi:=D1.high
   have hsin:=D1.sIn
   have hpin:=D1.pIn
   obtain⟨sa,sc,rfl⟩:=dN hsr
   obtain⟨pa,pc,rfl⟩:=dN hpr
   obtain⟨ka,kc,rfl⟩:=dN hlr
   refine⟨_,_,_,_,sa,sd'.length,sc,pa,sp'.length,pc,ka,d'.links.length,kc,D1.box,Bd,W.heap.size,k1,k3,k4,yi,yL,by omega,hKM,R1,⟨s',ws2,nm2,sv2,vs2,ma2,mc2,Mh2,R3,R4⟩, ?_⟩
   refine⟨D+1+n,sd',sp',⟨rfl,rfl,by rw[<-D4]⟩,hsr,hpr,by rw[<-D4];exact hlr,D1.sIs.trans D2,D1.pIs.trans D3,fun z hz=>⟨(hsin z hz).1,(hsin z hz).2.1,(hsin z hz).2.2.mono fun q hq=>⟨hq.1,trivial⟩⟩,fun z hz=>⟨(hpin z hz).1,(hpin z hz).2.1,(hpin z hz).2.2.mono fun q hq=>⟨hq.1,trivial⟩⟩,fun q hq=>⟨hhi q (Or.inr (Or.inr hq)),trivial⟩⟩
  ·rw[R1]at h01
   obtain⟨e1,e2,e3⟩:=Eh h01
   refine⟨Bd,W.heap.size,k1,k3,k4,yi,yL,by omega,hKM,R1,⟨s',ws2,nm2,sv2,vs2,ma2,mc2,Mh2,R3,R4⟩, ?_⟩
   rw[e1,e2,e3]
   exact TkRows.none _ _ _
 ·rintro e w' (⟨u,rfl,H⟩|⟨i,y,c,f,sa,sl,sc,pa,pl,pc,ka,kl,kc,rfl,H⟩)
  ·obtain⟨hb,hu⟩:=H.out
   refine Or.inl ⟨u,rfl, ?_⟩
   rcases hu with⟨rfl,h⟩|⟨rfl,h0,hr⟩|⟨rfl,h0,hr,hn⟩
   ·exact⟨h,by unfold kV;rw[if_pos h],hb⟩
   ·exact⟨by decide,by unfold kV;rw[if_neg (fun q=>q h0),if_pos hr],hb⟩
   ·refine⟨by decide, ?_,hb⟩
    have hst:gH room l name self next (cn 13 s) (ms.map (cn 13))=none:=by
     unfold gH
     rw[hn]
     rfl
    unfold kV
    rw[if_neg (fun q=>q h0),if_neg (by rw[hr];decide),hst]
    rfl
  ·obtain⟨h0,hr,W1,W2,⟨Bd,L,k1,k3,k4,yi,yo,hL,hKM,hf,⟨s',ws2,nm2,sv2,vs2,ma2,mc2,Mh2,P1,P2⟩,hrows⟩,hb12,hk⟩:=H.out
   have hs1:=hKM.size
   have hs2:=hb12.size
   have hme:(ms.map (cn 13)).eraseIdx i=(ms.eraseIdx i).map (cn 13):=by simp[List.eraseIdx_eq_take_drop_succ,List.map_take,List.map_drop]
   have hst:gH room l name self next (cn 13 s) (ms.map (cn 13))=some {cO room self next (cn 13 s) (cn 13 s) ((ms.eraseIdx i).map (cn 13)) c Bd with message:=cn 13 y}:=by
    unfold gH
    rw[k1]
    simp only[Option.bind_some]
    rw[k3,hme,Option.map_some,Jd]
   refine Or.inr ⟨y,f,sa,sl,sc,pa,pl,pc,ka,kl,kc,rfl,_,i,L, ?_,hst,hf,rfl,k4,((yi.below hb12).mono hs2).kee hk (yo.mono fun q hq e=>by omega),yo.mono fun q hq=>⟨by omega,hq.2⟩,(hKM.trans (aC hb12 M) fun _ _ e=>e).trans (iq hk) fun b hb e=>by omega,hL,⟨s',ws2,nm2,sv2,vs2,ma2,mc2,Mh2,(P1.later (N:=12) hb12).kept (N:=12) (iq hk) fun b hb _ e=> ?_,P2,(CQ ..).symm⟩,(hrows.kept (aG hb12 (fun _=>False)) fun _ _ _ _ e=>e).kept hk fun q hq _ _ e=>by omega⟩
   ·unfold kV
    rw[if_neg (fun q=>q h0),if_neg (by rw[hr];decide),hst]
    rfl
   ·rcases hb with hb|hb
    ·have:=hM b hb
     omega
    ·omega
theorem D5 (n:Nat) (x:Tm n):aP n x=0∨aP n x=2∨aP n x=5:=by
 rw[<-jf]
 unfold xV
 split
 ·split
  ·exact Or.inr (Or.inl rfl)
  ·exact Or.inl rfl
 ·exact Or.inr (Or.inr rfl)
section
variable {base pb:Nat} {name:ByteArray} {room:Int} {N n:Nat} {s:Tm (N+1)} {ms:List (Tm (N+1))} {nk:Nat} {M:Nat->Prop} {w:World} {ws:List Wd} {nm:List ByteArray} {sv:Wd} {vs:List Wd} {ma:Option Addr} {mc:Nat} {Mh:Nat->Prop}
theorem PrAt.putBad (h:PrAt base pb name room (N+1) s ms [] nk M w ws nm sv vs ma mc Mh) (x:Tm (n+1)) (hx:In w.heap.size w (n+1) x) (ho:Off (fun b=>¬M b) (n+1) x) (hN:(nodes (n+1) x).length<=2097152) (hnk:nk<=49000) (hbw:base<=w.heap.size) (hc:aP (n+1) x≠0):
    Calls Tryz.prog 32 #[.pointer (some ⟨pb,0,none⟩),val (n+1) x] w fun e w'=>e=.returned (.tuple #[.agg #[.int .i64 0,.int .i64 0],.int .i64 (aP (n+1) x)])/\Below w.heap.size w w':=by
 obtain⟨_,_,_,k4,k5,k6,k7,_⟩:=h.front
 have hnn:=h.names
 have hpe:iF (n+1) x room ws=aP (n+1) x:=by
  unfold iF
  rw[if_pos hc]
 have h6:iF (n+1) x room ws≠6:=by
  rw[hpe]
  rcases D5 (n+1) x with e|e|e<;>rw[e]<;>decide
 have hcl:∀{v:Wd} {e1:Int} {w0 w1:World},vC (n+1) x base (PL pb name sv (.slice ma vs.length mc)) room ws nm Mh v e1 w0 w1->e1≠0:=fun q=>by
  rw[q.1,hpe]
  exact hc
 refine(zy pb x.1.1 x.1.2.1 x.1.2.2 x.2.1.1 x.2.2.length x.2.1.2 w (fun v e1 w0 w1=>vC (n+1) x base (PL pb name sv (.slice ma vs.length mc)) room ws nm Mh v e1 w0 w1) (fun _ _=>False) (fun _ _ _ _=>False) ?_ ?_ ?_).mono ?_
 ·intro w0 hb
  have hs:=hb.size
  have h0:=h.later hb
  refine(rY (n+1) x base (PL pb name sv (.slice ma vs.length mc)) room ws nm Mh w0 h0.heap ((hx.below hb).mono hs) (ho.mono fun b hb q=>hb (h.inM b q)) hN (by omega) k6 k7 (by omega) (by omega)).mono ?_
  intro e w1 q
  obtain⟨v,e1,rfl,hf⟩:=vZ q
  refine⟨v,e1,rfl, ?_,hf⟩
  have hb1:=(hf.2.1 (hcl hf)).2
  exact⟨hb1.size,fun b _ _ h3=>hb1.block b h3⟩
 ·intro v1 w0 w1 w2 _ hf _ _
  exact absurd hf.1.symm h6
 ·intro _ _ _ hf
  exact hf.elim
 ·rintro e w' ⟨v,e1,rfl,⟨_,w0,w1,hb,hf,hk⟩|⟨_,_,_,_,_,_,_,_,_,_,_,hf,_⟩⟩
  ·obtain⟨hv,hb1⟩:=hf.2.1 (hcl hf)
   have hs:=hb.size
   have he:e1=aP (n+1) x:=hf.1.trans hpe
   refine⟨by rw[he,hv],(hb.trans (hb1.mono hs)).trans ((fV hk).below (by have:=hb1.size;omega) fun b hb' q=>by omega)⟩
  ·exact hf.elim
theorem PrAt.deliverBad (h:PrAt base pb name room (N+1) s ms [] nk M w ws nm sv vs ma mc Mh) (x:Tm (n+1)) (hx:In w.heap.size w (n+1) x) (ho:Off (fun b=>¬M b) (n+1) x) (hN:(nodes (n+1) x).length<=2097152) (hnk:nk<=49000) (hbw:base<=w.heap.size) (hc:aP (n+1) x≠0):
    Calls Tryz.prog 7 #[.pointer (some ⟨pb,0,none⟩),val (n+1) x] w fun e w'=>e=.returned (.int .i64 (if 20<=ms.length then 2 else aP (n+1) x))/\Below w.heap.size w w':=by
 have hlen:=h.len
 obtain⟨hpb,hpl⟩:=h.box0
 refine(nJ pb x.1.1 x.1.2.1 x.1.2.2 x.2.1.1 x.2.2.length x.2.1.2 vs.length mc ma w (fun _ e1 w0 w1=>e1=aP (n+1) x/\Below w0.heap.size w0 w1) (fun _ _ _ _ _ _=>False) hpl ?_ ?_ ?_).mono ?_
 ·intro w1 hb
  obtain⟨tv,lv,mv,h1,_⟩:=(h.later hb).heap.box
  exact(PL.cells h1).2.2.2.1
 ·intro w0 hb
  have hs:=hb.size
  refine((h.later hb).putBad x ((hx.below hb).mono hs) ho hN hnk (Nat.le_trans hbw hs) hc).mono ?_
  rintro e w1 ⟨rfl,hb1⟩
  exact⟨(0,0),_,rfl,⟨hb1.size,fun b _ _ h3=>hb1.block b h3⟩,rfl,hb1⟩
 ·rintro v w0 w1 ⟨e,_⟩
  exact absurd e.symm hc
 ·rintro e w' ⟨h1,h2⟩
  by_cases h20:20<=vs.length
  ·obtain⟨rfl,hb⟩:=h1 h20
   exact⟨by rw[if_pos (by omega)],hb⟩
  ·obtain⟨v,e1,w0,w1,rfl,hb,⟨rfl,hb1⟩,h3,_⟩:=h2 (by omega)
   have hs:=hb.size
   exact⟨by rw[if_neg (by omega)],(hb.trans (hb1.mono hs)).trans ((h3 hc).mono (by have:=hb1.size;omega))⟩
end
def fO (n:Nat) (x:Tm n) (room:Int) (s:Tc) (ms:List Tc):Int:=if 20<=ms.length then 2 else if aP n x≠0 then aP n x else if ai n x=false then 5 else if ((s::ms).map (sz 13)).sum+sz n x<=room then 0 else 6
theorem lK {l:List Tc} (h:∀y∈l,aP 13 y=0):((l.map (cn 13)).map (sz 13)).sum=(l.map (sz 13)).sum:=by
 rw[List.map_map]
 congr 1
 exact List.map_congr_left fun y hy=>BQ (h y hy)
section
variable {base pb:Nat} {name:ByteArray} {room:Int} {n:Nat} {s:Tc} {ms:List Tc} {nk:Nat} {M:Nat->Prop} {w:World} {ws:List Wd} {nm:List ByteArray} {sv:Wd} {vs:List Wd} {ma:Option Addr} {mc:Nat} {Mh:Nat->Prop}
theorem PrAt.deliverC (h:PrAt base pb name room 13 s ms [] nk M w ws nm sv vs ma mc Mh) (x:Tm (n+1)) (hx:In w.heap.size w (n+1) x) (ho:Off (fun b=>¬M b) (n+1) x) (hN:(nodes (n+1) x).length<=2097152) (hM:∀b,M b->b<w.heap.size) (hnk:nk<=49000) (h20:ms.length<=999) (hbw:base<=w.heap.size):
    Calls Tryz.prog 7 #[.pointer (some ⟨pb,0,none⟩),val (n+1) x] w fun e w'=>e=.returned (.int .i64 (fO (n+1) x room (cn 13 s) (ms.map (cn 13))))/\Hid (∃ms' ws' nm' sv' vs' ma' mc' Mh',PrAt base pb name room 13 s ms' [] (nk+201) (fun b=>M b∨w.heap.size<=b) w' ws' nm' sv' vs' ma' mc' Mh'/\Keep M w w'/\ms'.map (cn 13)=if fO (n+1) x room (cn 13 s) (ms.map (cn 13))=0 then ms.map (cn 13)++ [cn (n+1) x]else ms.map (cn 13)):=by
 have hok:∀y∈s::ms,aP 13 y=0:=fun y hy=>((h.front (N:=12)).2.2.1 y hy).1
 have hsum:((cn 13 s::ms.map (cn 13)).map (sz 13)).sum=((s::ms).map (sz 13)).sum:=lK hok
 by_cases hc:aP (n+1) x=0
 ·have hr:ak ⟨n+1,x⟩:=ax.2 (aN.1 hc).1
  have hd:dW (n+1) x<13:=by have:=(aN.1 hc).2.1;omega
  have hs:=fJ 13 (n+1) x hr hd
  have hch:aP 13 (lift 13 (n+1) x)=0:=(bu hs).trans hc
  have hd1:=h.deliver (N:=12) (lift 13 (n+1) x) (mP 13 (n+1) x _ _ hr hd hx) (lC 13 (n+1) x _ hr hd ho) (eP hch) hM hnk h20 hbw
  have hE:wE 13 (lift 13 (n+1) x) room s ms=fO (n+1) x room (cn 13 s) (ms.map (cn 13)):=by
   unfold wE fO oU
   rw[hsum,List.length_map,hch,hc,bI _ _ _ _ hs,jV _ _ _ _ hs]
  have hv:val (12+1) (lift (12+1) (n+1) x)=val (n+1) x:=Cg 12 n x
  rw[hv]at hd1
  refine hd1.mono ?_
  rintro e w' ⟨rfl,H⟩
  obtain⟨ws',nm',sv',vs',ma',mc',Mh',h1,hk⟩:=H.out
  refine⟨congrArg (fun u=>Ending.returned (.int .i64 u)) hE,_,ws',nm',sv',vs',ma',mc',Mh',h1,hk, ?_⟩
  have hE':wE (12+1) (lift (12+1) (n+1) x) room s ms=fO (n+1) x room (cn 13 s) (ms.map (cn 13)):=hE
  rw[hE']
  by_cases h0:fO (n+1) x room (cn 13 s) (ms.map (cn 13))=0
  ·rw[if_pos h0,if_pos h0,List.map_append]
   congr 1
   exact congrArg (fun t=> [t]) (gq hs)
  ·rw[if_neg h0,if_neg h0]
 ·have hE:fO (n+1) x room (cn 13 s) (ms.map (cn 13))=if 20<=ms.length then 2 else aP (n+1) x:=by
    unfold fO
    rw[List.length_map,if_pos hc]
  have h0:fO (n+1) x room (cn 13 s) (ms.map (cn 13))≠0:=by
   rw[hE]
   split
   ·decide
   ·exact hc
  refine(h.deliverBad (N:=12) x hx ho hN hnk hbw hc).mono ?_
  rintro e w' ⟨rfl,hb⟩
  refine⟨by rw[hE],ms,ws,nm,sv,vs,ma,mc,Mh,(h.later (N:=12) hb).mono (N:=12) (fun b q=>Or.inl q) (by omega),aC hb M, ?_⟩
  rw[if_neg h0]
end
theorem E9 {n:Nat} {x:Tm (n+1)} (room:Int) (name:ByteArray) (hc:aP (n+1) x=0):ek 13 (lift 13 (n+1) x) room name=ek (n+1) x room name:=by
 have hr:ak ⟨n+1,x⟩:=ax.2 (aN.1 hc).1
 have hd:dW (n+1) x<13:=by have:=(aN.1 hc).2.1;omega
 have hs:=fJ 13 (n+1) x hr hd
 unfold ek iF
 rw[bu hs,bI _ _ _ _ hs,jV _ _ _ _ hs]
theorem J6 (n:Nat) (x:Tm (n+1)) (room:Int) (name:ByteArray) (w:World) (hsz:name.size<=9223372036854775807) (hx:In w.heap.size w (n+1) x) (hN:(nodes (n+1) x).length<=2097152):
    Calls Tryz.prog 4 #[.string name,val (n+1) x,.int .i64 room] w fun e w'=>(ek (n+1) x room name≠0->e=.returned (.tuple #[.pointer none,.int .i64 (ek (n+1) x room name)])/\Below w.heap.size w w')/\
     (ek (n+1) x room name=0->∃pb,e=.returned (.tuple #[.pointer (some ⟨pb,0,none⟩),.int .i64 0])/\Hid (w.heap.size<=pb/\Below w.heap.size w w'/\aP (n+1) x=0/\∃s ws nm sv Mh,cn 13 s=cn (n+1) x/\PrAt w.heap.size pb name room 13 s [] [] 201 (fun b=>w.heap.size<=b/\b<w'.heap.size) w' ws nm sv [] none 0 Mh)):=by
 by_cases hc:aP (n+1) x=0
 ·have hr:ak ⟨n+1,x⟩:=ax.2 (aN.1 hc).1
  have hd:dW (n+1) x<13:=by have:=(aN.1 hc).2.1;omega
  have hs:=fJ 13 (n+1) x hr hd
  have hch:aP 13 (lift 13 (n+1) x)=0:=(bu hs).trans hc
  have h:=wX 12 (lift 13 (n+1) x) room name w hsz (mP 13 (n+1) x _ _ hr hd hx) (eP hch)
  have hv:val (12+1) (lift (12+1) (n+1) x)=val (n+1) x:=Cg 12 n x
  rw[hv]at h
  refine h.mono ?_
  rintro e w' ⟨h1,h2⟩
  have he:ek (12+1) (lift (12+1) (n+1) x) room name=ek (n+1) x room name:=E9 room name hc
  rw[he]at h1 h2
  refine⟨h1,fun h0=> ?_⟩
  obtain⟨pb,rfl,H⟩:=h2 h0
  obtain⟨k1,k2,ws,nm,sv,Mh,k3⟩:=H.out
  exact⟨pb,rfl,k1,k2,hc,_,ws,nm,sv,Mh,gq hs,k3⟩
 ·refine(wX n x room name w hsz hx hN).mono ?_
  rintro e w' ⟨h1,h2⟩
  refine⟨h1,fun h0=> ?_⟩
  unfold ek at h0
  split at h0
  ·cases h0
  ·split at h0
   ·cases h0
   ·unfold iF at h0
    rw[if_pos hc]at h0
    exact absurd h0 hc
def P1 (B0 pb:Nat) (name:ByteArray) (room:Int) (cs:Tc) (cms:List Tc) (k:Nat) (M:Nat->Prop) (w:World):Prop:=
 ∃base s ms ws nm sv vs ma mc Mh,PrAt base pb name room 13 s ms [] k M w ws nm sv vs ma mc Mh/\(cn 13 s=cs/\ms.map (cn 13)=cms)/\base<=w.heap.size/\∀b,M b->B0<=b/\b<w.heap.size
section
variable {B0 pb:Nat} {name:ByteArray} {room:Int} {cs:Tc} {cms:List Tc} {k:Nat} {M:Nat->Prop} {w:World}
theorem P1.later (h:P1 B0 pb name room cs cms k M w) {w1:World} (hb:Below w.heap.size w w1):P1 B0 pb name room cs cms k M w1:=by
 obtain⟨base,s,ms,ws,nm,sv,vs,ma,mc,Mh,h1,h2,h3,h4⟩:=h
 have hs:=hb.size
 exact⟨base,s,ms,ws,nm,sv,vs,ma,mc,Mh,h1.later (N:=12) hb,h2,by omega,fun b q=>⟨(h4 b q).1,by have:=(h4 b q).2;omega⟩⟩
theorem P1.kept (h:P1 B0 pb name room cs cms k M w) {S:Nat->Prop} {w1:World} (hk:Keep S w w1) (hd:∀b,M b->¬S b):P1 B0 pb name room cs cms k M w1:=by
 obtain⟨base,s,ms,ws,nm,sv,vs,ma,mc,Mh,h1,h2,h3,h4⟩:=h
 have hs:=hk.size
 exact⟨base,s,ms,ws,nm,sv,vs,ma,mc,Mh,h1.kept (N:=12) hk fun b q _=>hd b q,h2,by omega,fun b q=>⟨(h4 b q).1,by have:=(h4 b q).2;omega⟩⟩
def mM (M:Nat->Prop) (w w':World) (b:Nat):Prop:=(M b∨w.heap.size<=b)/\b<w'.heap.size
theorem P1.deliver (h:P1 B0 pb name room cs cms k M w) {n:Nat} (x:Tm (n+1)) (hx:In w.heap.size w (n+1) x) (ho:Off (fun b=>¬M b) (n+1) x) (hN:(nodes (n+1) x).length<=2097152) (hk:k<=49000) (h20:cms.length<=999) (hB:B0<=w.heap.size):
    Calls Tryz.prog 7 #[.pointer (some ⟨pb,0,none⟩),val (n+1) x] w fun e w'=>e=.returned (.int .i64 (fO (n+1) x room cs cms))/\Hid (Keep M w w'/\P1 B0 pb name room cs (if fO (n+1) x room cs cms=0 then cms++ [cn (n+1) x]else cms) (k+201) (mM M w w') w'):=by
 obtain⟨base,s,ms,ws,nm,sv,vs,ma,mc,Mh,h1,⟨rfl,rfl⟩,h3,h4⟩:=h
 refine(h1.deliverC x hx ho hN (fun b q=>(h4 b q).2) hk (by simpa using h20) h3).mono ?_
 rintro e w' ⟨rfl,H⟩
 obtain⟨ms',ws',nm',sv',vs',ma',mc',Mh',h5,h6,h7⟩:=H.out
 refine⟨rfl,h6,base,s,ms',ws',nm',sv',vs',ma',mc',_,h5.inside (N:=12),⟨rfl,h7⟩,Nat.le_trans h3 h6.size,fun b q=>⟨?_,q.2⟩⟩
 rcases q.1 with z|z
 ·exact(h4 b z).1
 ·omega
theorem P1.tidy (h:P1 B0 pb name room cs cms k M w) (hk:k<=50000) (h20:cms.length<=999) (hB:B0<=w.heap.size):
    Calls Tryz.prog 13 #[.pointer (some ⟨pb,0,none⟩)] w fun e w'=>e=.returned (.tuple #[])/\Hid (Keep M w w'/\P1 B0 pb name room cs cms k (mM M w w') w'/\Calls Tryz.prog 14 #[.pointer (some ⟨pb,0,none⟩)] w' fun e w''=>e=.returned (.int .i64 ((cs::cms).map (sz 13)).sum)/\w''=w'):=by
 obtain⟨base,s,ms,ws,nm,sv,vs,ma,mc,Mh,h1,⟨rfl,rfl⟩,h3,h4⟩:=h
 have hc:∀y∈s::ms,aP 13 y=0:=fun y hy=>((h1.front (N:=12)).2.2.1 y hy).1
 refine(h1.tidy (N:=12) hk (by simpa using h20) h3).mono ?_
 rintro e w' ⟨rfl,ws',sv',vs',ma',Mh',h5,H⟩
 obtain⟨h6,h7⟩:=H.out
 refine⟨rfl,h6,⟨base,s,ms,ws',nm,sv',vs',ma',_,_,h5.inside (N:=12),⟨rfl,rfl⟩,Nat.le_trans h3 h6.size,fun b q=>⟨?_,q.2⟩⟩, ?_⟩
 ·rcases q.1 with z|z
  ·exact(h4 b z).1
  ·omega
 ·have e:((cn 13 s::ms.map (cn 13)).map (sz 13)).sum=(ws'.length:Int):=(lK hc).trans h7.symm
  rw[e]
  exact EQ h5
theorem P1.state (h:P1 B0 pb name room cs cms k M w) (hk:k<=50000):
    Calls Tryz.prog 18 #[.pointer (some ⟨pb,0,none⟩)] w fun e w'=>∃y:Tc,e=.returned (val 13 y)/\Hid (Below w.heap.size w w'/\In w'.heap.size w' 13 y/\Off (fun q=>w.heap.size<=q) 13 y/\aP 13 y=0/\cn 13 y=cs):=by
 obtain⟨base,s,ms,ws,nm,sv,vs,ma,mc,Mh,h1,⟨rfl,rfl⟩,h3,h4⟩:=h
 have h0:=(h1.front (N:=12)).2.2.1 s (by simp)
 refine(h1.state (N:=12) hk).mono ?_
 rintro e w' ⟨y,rfl,H⟩
 obtain⟨y1,y2,y3,y4⟩:=H.out
 exact⟨y,rfl,y1,y2,y3,(bu y4).trans h0.1,gq y4⟩
theorem P1.mails (h:P1 B0 pb name room cs cms k M w) (hk:k<=50000) (h20:cms.length<=999):
    Calls Tryz.prog 20 #[.pointer (some ⟨pb,0,none⟩)] w fun e w'=>∃(ys:List Tc) (a:Option Addr) (c:Nat),e=.returned (.slice a cms.length c)/\Hid (ys.length=cms.length/\Below w.heap.size w w'/\Lies w'.heap.size w' 13 ys a/\ys.map (cn 13)=cms/\∀y∈ys,aP 13 y=0/\Off (fun q=>w.heap.size<=q) 13 y):=by
 obtain⟨base,s,ms,ws,nm,sv,vs,ma,mc,Mh,h1,⟨rfl,rfl⟩,h3,h4⟩:=h
 have hc:∀y∈ms,aP 13 y=0:=fun y hy=>((h1.front (N:=12)).2.2.1 y (List.mem_cons_of_mem _ hy)).1
 have h20':ms.length<=999:=by simpa using h20
 refine(h1.mails (N:=12) hk (by omega)).mono ?_
 rintro e w' ⟨ys,L,a,c,rfl,H⟩
 obtain⟨m1,m2,m3⟩:=H.out
 have hL:L=(ms.map (cn 13)).length:=by
  rw[<-m1,List.length_map]
  exact bM _ _ _ m3
 subst hL
 obtain⟨a',c',e1,_,e3,_⟩:=Grow.lay (aX 13) (f:=fw 13) (fun _=>rfl) m2
 injection e1 with e1 _ _
 subst e1
 refine⟨ys,a,c,rfl,m1,m2.1, ?_,Kt ys ms m3,fun y hy=>⟨?_,(m2.2.2 y hy).2.mono fun q hq=>by rcases hq.1 with z|z<;>omega⟩⟩
 ·rcases e3 with e3|⟨g,o,e6,hg,hcc⟩
  ·exact Or.inl e3
  ·exact Or.inr ⟨g,o,e6,hg,fun i y hy=>⟨⟨(hcc i y hy).1 0 _ rfl,(hcc i y hy).1 1 _ rfl,(hcc i y hy).1 2 _ rfl,(hcc i y hy).1 3 _ rfl⟩,(hcc i y hy).2⟩⟩
 ·obtain⟨z,hz,hs⟩:=oF _ _ _ m3 y hy
  exact(bu hs).trans (hc z hz)
end
section
variable {B0 pb:Nat} {name:ByteArray} {room:Int} {cs:Tc} {cms:List Tc} {k:Nat} {M:Nat->Prop} {w:World}
theorem P1.mono (h:P1 B0 pb name room cs cms k M w) {M':Nat->Prop} {k' B1:Nat} (hM:∀b,M b->M' b) (hk:k<=k') (hb:∀b,M' b->B1<=b/\b<w.heap.size):P1 B1 pb name room cs cms k' M' w:=by
 obtain⟨base,s,ms,ws,nm,sv,vs,ma,mc,Mh,h1,h2,h3,_⟩:=h
 exact⟨base,s,ms,ws,nm,sv,vs,ma,mc,Mh,h1.mono (N:=12) hM hk,h2,h3,hb⟩
def KE (B0 pb:Nat) (name:ByteArray) (room:Int) (cs:Tc) (cms:List Tc) (k:Nat) (M:Nat->Prop) (n:Nat) (l:List (Bh (n+1))) (self next:Int) (w:World) (e:Ending) (w':World):Prop:=
 (∃u,e=.returned (.tuple #[GV,.int .i64 u])/\Hid (u≠0/\u=kV n room l name self next cs cms/\Below w.heap.size w w'))∨
  ∃(y:Tc) (f:Int) (sa:Option Addr) (sl sc:Nat) (pa:Option Addr) (pl pc:Nat) (ka:Option Addr) (kl kc:Nat),e=.returned (.tuple #[JS y.1.1 y.1.2.1 y.1.2.2 y.2.1.1 y.2.2.length y.2.1.2 f sa sl sc pa pl pc ka kl kc,.int .i64 0])/\Hid (∃tk L,kV n room l name self next cs cms=0/\gH room l name self next cs cms=some tk/\f=tk.fate/\cn 13 y=tk.message/\aP 13 y=0/\In w'.heap.size w' 13 y/\Off (fun q=>w.heap.size<=q/\q<L) 13 y/\Keep M w w'/\w.heap.size<L/\
   P1 B0 pb name room tk.state tk.mail (k+402) (fun b=>(M b∨L<=b)/\b<w'.heap.size) w'/\tk.mail.length<=cms.length/\TkRows (w.heap.size+1) tk.sends tk.spawns tk.links sa sl sc pa pl pc ka kl kc (fun _=>True) w')
theorem P1.step (h:P1 B0 pb name room cs cms k M w) {n:Nat} (l:List (Bh (n+1))) (la:Option Addr) (lc B:Nat) (hl:PgIn (n+1) B w la l) (hB:B<=w.heap.size) (hlc:l.length<=lc) (hmx:lc<=maxLen) (hN:og (n+1) l=true->(nodes (n+6) (dx n l)).length<=2097152) (hPg:∀W,Kee M w W->PgIn (n+1) B W la l) (hB0:B0<=w.heap.size) (hk:k<=47000) (h20:cms.length<=999) (self next:Int):
    Calls Tryz.prog 11 #[.pointer (some ⟨pb,0,none⟩),.slice la l.length lc,.int .i64 self,.int .i64 next] w (KE B0 pb name room cs cms k M n l self next w):=by
 obtain⟨base,s,ms,ws,nm,sv,vs,ma,mc,Mh,h1,⟨rfl,rfl⟩,h3,h4⟩:=h
 refine(h1.step l la lc B hl hB hlc hmx hN (fun b q=>(h4 b q).2) hPg hk (by simpa using h20) h3 self next).mono ?_
 rintro e w' (⟨u,rfl,H⟩|⟨y,f,sa,sl,sc,pa,pl,pc,ka,kl,kc,rfl,H⟩)
 ·exact Or.inl ⟨u,rfl,H.out⟩
 ·obtain⟨tk,i,L,a1,a2,a3,a4,a5,a6,a7,a8,a9,⟨s',ws',nm',sv',vs',ma',mc',Mh',b1,b2,b3⟩,a10⟩:=H.out
  refine Or.inr ⟨y,f,sa,sl,sc,pa,pl,pc,ka,kl,kc,rfl,tk,L,a1,a2,a3,a4,a5,a6,a7,a8,a9,⟨base,s',_,ws',nm',sv',vs',ma',mc',_,b1.inside (N:=12),⟨b2,b3⟩,Nat.le_trans h3 a8.size,fun b q=>⟨?_,q.2⟩⟩, ?_,a10⟩
  ·rcases q.1 with z|z
   ·exact(h4 b z).1
   ·omega
  ·rw[<-b3,List.length_map,List.length_map]
   exact List.length_eraseIdx_le ms i
end
theorem P1.new (n:Nat) (x:Tm (n+1)) (room:Int) (name:ByteArray) (w:World) (hsz:name.size<=9223372036854775807) (hx:In w.heap.size w (n+1) x) (hN:(nodes (n+1) x).length<=2097152):
    Calls Tryz.prog 4 #[.string name,val (n+1) x,.int .i64 room] w fun e w'=>∃p:Option Addr,e=.returned (.tuple #[.pointer p,.int .i64 (ek (n+1) x room name)])/\Hid (Below w.heap.size w w'/\(ek (n+1) x room name≠0->p=none)/\(ek (n+1) x room name=0->∃pb,p=some ⟨pb,0,none⟩/\w.heap.size<=pb/\aP (n+1) x=0/\P1 w.heap.size pb name room (cn (n+1) x) [] 201 (fun b=>w.heap.size<=b/\b<w'.heap.size) w')):=by
 refine(J6 n x room name w hsz hx hN).mono ?_
 rintro e w' ⟨h1,h2⟩
 by_cases h0:ek (n+1) x room name=0
 ·obtain⟨pb,rfl,H⟩:=h2 h0
  obtain⟨k1,k2,k3,s,ws,nm,sv,Mh,k4,k5⟩:=H.out
  exact⟨some ⟨pb,0,none⟩,by rw[h0],k2,fun q=>absurd h0 q,fun _=>⟨pb,rfl,k1,k3,w.heap.size,s,[],ws,nm,sv,[],none,0,Mh,k5,⟨k4,rfl⟩,k2.size,fun b q=>q⟩⟩
 ·obtain⟨rfl,hb⟩:=h1 h0
  exact⟨none,rfl,hb,fun _=>rfl,fun q=>absurd q h0⟩
def Jy (name:ByteArray) (room:Int) (x:Tc) (mv:Value):Array Value:= #[.string name,.int .i64 room,.int .i64 x.1.1,.int .i64 x.1.2.1,.string x.1.2.2,.slice x.2.1.1 x.2.2.length x.2.1.2,mv]
structure QA (qb:Nat) (name:ByteArray) (room:Int) (x:Tc) (ys:List Tc) (ma:Option Addr) (mc:Nat) (D:Nat->Prop) (w:World):Prop where
 box:w.heap[qb]? =some (.cells (Jy name room x (.slice ma ys.length mc)) 57)
 cap:ys.length<=mc/\mc<=maxLen
 st:In w.heap.size w 13 x/\Off D 13 x
 row:ys=[]∨∃b o,ma=some ⟨b,o,none⟩/\b<w.heap.size/\D b/\∀(i:Nat) (y:Tc),ys[i]? =some y->Held w b (o+i*4) 13 y/\In w.heap.size w 13 y/\Off D 13 y
 ok:∀y∈x::ys,aP 13 y=0/\ai 13 y=true
 out:¬D qb
 bounds:0<=room/\room<=1000/\ys.length<=20
theorem eG {w w':World} {b o:Nat} (h:w'.heap[b]? =w.heap[b]?):{n:Nat}->{y:Tm n}->Held w b o n y->Held w' b o n y
 | 0,_,k=>k
 | _+1,_,⟨k0,k1,k2,k3⟩=>by
  have hc:∀j,w'.cell? ⟨b,j,none⟩=w.cell? ⟨b,j,none⟩:=fun j=>World.cell?_of_block h
  exact⟨(hc _).trans k0,(hc _).trans k1,(hc _).trans k2,(hc _).trans k3⟩
theorem dn {D D':Nat->Prop} {w w':World} (hs:w.heap.size<=w'.heap.size) (hb:∀b,D b->b<w.heap.size->w'.heap[b]? =w.heap[b]?) (hD:∀b,D b->b<w.heap.size->D' b) {n:Nat} {y:Tm n} (h:In w.heap.size w n y/\Off D n y):In w'.heap.size w' n y/\Off D' n y:=by
 have ho:=In.offB h.2 h.1
 exact⟨(In.off (P:=fun b=>D b/\b<w.heap.size) (fun b q=>hb b q.1 q.2) ho h.1).mono hs,ho.mono fun b q=>hD b q.1 q.2⟩
section
variable {qb:Nat} {name:ByteArray} {room:Int} {x:Tc} {ys:List Tc} {ma:Option Addr} {mc:Nat} {D:Nat->Prop} {w:World}
theorem QA.kept (h:QA qb name room x ys ma mc D w) {w':World} {D':Nat->Prop} (hs:w.heap.size<=w'.heap.size) (hq:w'.heap[qb]? =w.heap[qb]?) (hb:∀b,D b->b<w.heap.size->w'.heap[b]? =w.heap[b]?) (hD:∀b,D b->b<w.heap.size->D' b) (ho:¬D' qb):QA qb name room x ys ma mc D' w':=by
 refine⟨hq.trans h.box,h.cap,dn hs hb hD h.st, ?_,h.ok,ho,h.bounds⟩
 rcases h.row with e|⟨b,o,e,hl,hd,hr⟩
 ·exact Or.inl e
 ·refine Or.inr ⟨b,o,e,by omega,hD b hd hl,fun i y hy=> ?_⟩
  obtain⟨k1,k2,k3⟩:=hr i y hy
  exact⟨eG (hb b hd hl) k1,dn hs hb hD ⟨k2,k3⟩⟩
theorem QA.later (h:QA qb name room x ys ma mc D w) {w':World} (hb:Below w.heap.size w w'):QA qb name room x ys ma mc D w':=
 h.kept hb.size (hb.block qb (Array.getElem?_eq_some_iff.1 h.box).1) (fun b _ hl=>hb.block b hl) (fun _ q _=>q) h.out
end
theorem uK {f:Tc->Int} {l:List Tc} {i:Nat} {y:Tc} (h:l[i]? =some y):((l.take (i+1)).map f).sum=((l.take i).map f).sum+f y:=by
 rw[List.take_add_one,h]
 simp
theorem kQ {ys:List Tc} (hc:∀y∈ys,aP 13 y=0):(i:Nat)->0<=((ys.take i).map (sz 13)).sum/\((ys.take i).map (sz 13)).sum<=200*(i:Int)
 | 0=>by simp
 | i+1=>by
  have ih:=kQ hc i
  cases h:ys[i]? with
  | none=>
   have:ys.take (i+1)=ys.take i:=by rw[List.take_add_one,h];simp
   rw[this]
   omega
  | some y=>
   rw[uK h]
   have h1:=(bD 13 y).1
   have h2:=(aN.1 (hc y (List.mem_of_getElem? h))).2.2
   omega
theorem FD {qb:Nat} {name:ByteArray} {room:Int} {x:Tc} {ys:List Tc} {ma:Option Addr} {mc:Nat} {D:Nat->Prop} {w:World} (h:QA qb name room x ys ma mc D w):Calls Tryz.prog 15 #[.pointer (some ⟨qb,0,none⟩)] w fun e w'=>e=.returned (.int .i64 ((x::ys).map (sz 13)).sum)/\Below w.heap.size w w':=by
 have HH:=hide h
 obtain⟨L,hL⟩:∃L,L=ys.length:=⟨_,rfl⟩
 have hL20:L<=20:=by rw[hL];exact h.bounds.2.2
 have HL:=hide hL
 have hql:=(Array.getElem?_eq_some_iff.1 h.box).1
 have HBX:Hid (∀W,Below w.heap.size w W->W.cell? ⟨qb,2,none⟩=some (.int .i64 x.1.1)/\W.cell? ⟨qb,3,none⟩=some (.int .i64 x.1.2.1)/\W.cell? ⟨qb,4,none⟩=some (.string x.1.2.2)/\W.cell? ⟨qb,5,none⟩=some (.slice x.2.1.1 x.2.2.length x.2.1.2)/\W.cell? ⟨qb,6,none⟩=some (.slice ma L mc)):=fun W hW=>by
  have hb:=(hW.block qb hql).trans h.box
  rw[<-hL]at hb
  exact⟨ae hb 2,ae hb 3,ae hb 4,ae hb 5,ae hb 6⟩
 have HSZ:Hid (∀(y:Tc),y∈x::ys->In w.heap.size w 13 y->∀W,Below w.heap.size w W->Calls Tryz.prog 27 #[.agg #[.int .i64 y.1.1,.int .i64 y.1.2.1,.string y.1.2.2,.slice y.2.1.1 y.2.2.length y.2.1.2]] W fun e w'=>e=.returned (.int .i64 (sz 13 y))/\Below W.heap.size W w'):=fun y hy hi W hW=>iP 13 y W.heap.size W ((hi.below hW).mono hW.size) (Nat.le_refl _) (eP (h.ok y hy).1)
 obtain⟨S,hS⟩:∃S,S=sz 13 x:=⟨_,rfl⟩
 have s0:0<=S/\S<=200:=by
  rw[hS]
  exact⟨(bD 13 x).1,(aN.1 (h.ok x (by simp)).1).2.2⟩
 have HS:=hide hS
 have HS0:=hide (HSZ.out x (by simp) h.st.1 w (Below.refl _ _))
 rw[<-hS]at HS0
 obtain⟨x2,x3,x4,x5,x6⟩:=HBX.out w (Below.refl _ _)
 clear h hL hS hql
 go_enter Tryz.func15,Tryz.ntmps15
 go_wp2_with fail
 refine HS0.out.mono ?_
 rintro e w1 ⟨rfl,hb1⟩
 have HB1:=hide hb1
 clear x2 x3 x4 x5 x6 hb1
 go_wp2_with fail
 go_loopw [3,4] (fun v i wr=>∃(k:Nat) (A:Int),k<=L/\i=.int .i64 k/\v=.int .i64 A/\0<=A/\A<=200*(k:Int)+200/\Hid (A=S+((ys.take k).map (sz 13)).sum/\Below w.heap.size w wr)) (fun _ i _=>L-(intOf i).toNat)
 case atStart=>exact⟨0,S,Nat.zero_le _,rfl,rfl,s0.1,by omega,by simp,HB1.out⟩
 case round=>
 obtain⟨k,A,hk,rfl,rfl,a0,a1,HA⟩:=hrel
 obtain⟨x2,x3,x4,x5,x6⟩:=HBX.out wr HA.out.2
 by_cases hkL:k<L
 rotate_left
 ·obtain rfl:k=L:=by omega
  have hA:A=((x::ys).map (sz 13)).sum:=by
   have h:=HA.out.1
   rw[List.take_of_length_le (by have:=HL.out;omega),HS.out]at h
   rw[h,List.map_cons,List.sum_cons]
  have HB:=hide HA.out.2
  have HAA:=hide hA
  clear hA
  go_wp2_with fail
  go_ret
  exact⟨bA HAA.out,HB.out⟩
 obtain⟨y,hy⟩:∃y,ys[k]? =some y:=⟨ys[k]'(by have:=HL.out;omega),List.getElem?_eq_getElem _⟩
 obtain⟨yb,yo,rfl,hyb,hyc⟩:∃b o,ma=some ⟨b,o,none⟩/\b<w.heap.size/\Held w b (o+k*4) 13 y/\In w.heap.size w 13 y:=by
  rcases HH.out.row with e|⟨b,o,e,hb,_,h⟩
  ·rw[e]at hy
   simp at hy
  ·exact⟨b,o,e,hb,(h k y hy).1,(h k y hy).2.1⟩
 obtain⟨y0,y1,y2,y3⟩:=hyc.1.below HA.out.2 hyb
 have HZ:=hide (HSZ.out y (List.mem_cons_of_mem _ (List.mem_of_getElem? hy)) hyc.2 wr HA.out.2)
 have z0:=(bD 13 y).1
 have z1:=(aN.1 (HH.out.ok y (List.mem_cons_of_mem _ (List.mem_of_getElem? hy))).1).2.2
 have HSU:=hide (uK (f:=sz 13) hy)
 obtain⟨s,hs⟩:∃s,s=sz 13 y:=⟨_,rfl⟩
 rw[<-hs]at HZ HSU z0 z1
 have k1:(0:Int)<=(k:Int):=by omega
 have k2:(k:Int)<(L:Int):=by omega
 clear hyc hy hs
 go_wp2_with fail
 refine HZ.out.mono ?_
 rintro e w2 ⟨rfl,hb2⟩
 have HB2:=hide (HA.out.2.trans (hb2.mono HA.out.2.size))
 clear hb2 HZ y0 y1 y2 y3 x2 x3 x4 x5 x6
 go_wp2_with fail
 go_roundw
 case rel=>exact⟨k+1,A+s,by omega,by go_num,by go_num,by omega,by omega,by rw[HA.out.1,HSU.out];omega,HB2.out⟩
 case measure=>simp[intOf];omega
end Go.Proofs.YtbknffhilfoakaaGreat
