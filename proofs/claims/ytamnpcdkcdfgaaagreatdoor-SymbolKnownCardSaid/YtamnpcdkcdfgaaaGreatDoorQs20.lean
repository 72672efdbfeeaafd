/- SymbolKnown holds. No condition. -/
import Derived.Test.YtamnpcdkcdfgaaaGreatDoorQs19
namespace Go.Proofs.YtamnpcdkcdfgaaaGreatDoor
namespace E
open Go Go.RowKit
open Ma Me K
noncomputable section
def kd0:Kd:=⟨⟨[.c false [.ns],.c false [.sl 0 0 1 (some 1)]],[⟨51,[.b false,.m 10,.m 0]⟩],.t []⟩,⟨51,[.b false,.m 1,.m 0]⟩,1,1⟩
def kd1:Kd:=⟨⟨[.c false [.sl 0 0 1 (some 1)]],[⟨51,[.b false,.m 1,.m 0]⟩],.t []⟩,⟨51,[.b false,.m 1,.m 0]⟩,1,1⟩
def kd2:Kd:=⟨⟨[.c false [.sl 1 0 1 (some 1)],.c false [.sl 0 0 1 (some 1)]],[⟨51,[.b false,.m 6,.m 0]⟩,⟨51,[.b false,.m 1,.m 0]⟩],.t []⟩,⟨51,[.b false,.m 1,.m 0]⟩,1,1⟩
def kd3:Kd:=⟨⟨[.c false [.sl 1 0 1 (some 1)],.c false [.sl 0 0 1 (some 1)]],[⟨51,[.b false,.m 2,.m 0]⟩,⟨51,[.b false,.m 1,.m 0]⟩],.t []⟩,⟨51,[.b false,.m 1,.m 0]⟩,1,1⟩
def kd4:Kd:=⟨⟨[.c false [.ns],.c false [.sl 0 0 1 (some 1)]],[⟨51,[.b false,.m 3,.m 0]⟩],.t []⟩,⟨51,[.b false,.m 1,.m 0]⟩,1,1⟩
def kd5:Kd:=⟨⟨[.c false [.sl 1 0 1 (some 1)],.c false [.sl 0 0 1 (some 1)]],[⟨51,[.b true,.m 3,.m 0]⟩,⟨51,[.b false,.m 1,.m 0]⟩],.t []⟩,⟨51,[.b true,.m 1,.m 0]⟩,1,1⟩
def kd6:Kd:=⟨⟨[.c false [.sl 0 0 1 (some 1)]],[⟨51,[.b true,.m 1,.m 0]⟩],.t []⟩,⟨51,[.b false,.m 1,.m 0]⟩,1,1⟩
def kd7:Kd:=⟨⟨[.c false [.sl 1 0 1 (some 1)],.c false [.sl 0 0 1 (some 1)]],[⟨51,[.b false,.m 5,.m 0]⟩,⟨51,[.b false,.m 1,.m 0]⟩],.t []⟩,⟨51,[.b false,.m 1,.m 0]⟩,1,1⟩
def kd8:Kd:=⟨⟨[.c false [.ns],.c false [.sl 0 0 1 (some 1)]],[⟨51,[.b true,.m 5,.m 0]⟩],.t []⟩,⟨51,[.b true,.m 1,.m 0]⟩,1,1⟩
def kd9:Kd:=⟨⟨[.c false [.sl 1 0 1 (some 1)],.c false [.sl 0 0 1 (some 1)]],[⟨51,[.b true,.m 6,.m 0]⟩,⟨51,[.b false,.m 1,.m 0]⟩],.t []⟩,⟨51,[.b true,.m 1,.m 0]⟩,1,1⟩
def aCJ:Kd:=⟨⟨[.c false [.sl 1 0 1 (some 1)],.c false [.sl 0 0 1 (some 1)]],[⟨51,[.b true,.m 1,.m 0]⟩,⟨51,[.b false,.m 1,.m 0]⟩],.t []⟩,⟨51,[.b true,.m 1,.m 0]⟩,1,1⟩
def aCK:Kd:=⟨⟨[.c false [.ns],.c false [.sl 0 0 1 (some 1)]],[⟨51,[.b false,.m 31,.m 9]⟩],.t []⟩,⟨51,[.b false,.m 1,.m 0]⟩,1,1⟩
def aCL:Kd:=⟨⟨[.c false [.sl 1 0 1 (some 1)],.c false [.sl 0 0 1 (some 1)]],[⟨51,[.b false,.m 16,.m 3]⟩,⟨51,[.b false,.m 1,.m 0]⟩],.t []⟩,⟨51,[.b false,.m 1,.m 0]⟩,1,1⟩
def aCM:Kd:=⟨⟨[.c false [.sl 1 0 1 (some 1)],.c false [.sl 0 0 1 (some 1)]],[⟨51,[.b false,.m 8,.m 9]⟩,⟨51,[.b false,.m 1,.m 0]⟩],.t []⟩,⟨51,[.b false,.m 1,.m 0]⟩,1,1⟩
def aCN:Kd:=⟨⟨[.c false [.sl 1 0 1 (some 1)],.c false [.sl 0 0 1 (some 1)]],[⟨51,[.b false,.m 5,.m 3]⟩,⟨51,[.b false,.m 1,.m 0]⟩],.t []⟩,⟨51,[.b false,.m 1,.m 0]⟩,1,1⟩
def aCO:Kd:=⟨⟨[.c false [.sl 1 0 1 (some 1)],.c false [.sl 0 0 1 (some 1)]],[⟨51,[.b false,.m 1,.m 0]⟩,⟨51,[.b false,.m 1,.m 0]⟩],.t []⟩,⟨51,[.b false,.m 1,.m 0]⟩,1,1⟩
def aJf:List Kd:=[kd0,kd2,kd3,kd4,kd5,kd7,kd8,kd9,aCJ,aCK,aCL,aCM,aCN,aCO]
def aJg:List Kd:=[kd1,kd6]
end
set_option maxRecDepth 1000000 in
theorem aNK:okD kd0=true∧fP kd0 (aU F5 (exec F5 100000) 227 kd0.k.args (mkH kd0.k.bs))=true:=⟨by decide+kernel,by decide+kernel⟩
set_option maxRecDepth 1000000 in
theorem aNL:okD kd1=true∧fP kd1 (aU F5 (exec F5 100000) 226 kd1.k.args (mkH kd1.k.bs))=true:=⟨by decide+kernel,by decide+kernel⟩
set_option maxRecDepth 1000000 in
theorem aNM:okD kd2=true∧fP kd2 (aU F5 (exec F5 100000) 227 kd2.k.args (mkH kd2.k.bs))=true:=⟨by decide+kernel,by decide+kernel⟩
set_option maxRecDepth 1000000 in
theorem aNN:okD kd3=true∧fP kd3 (aU F5 (exec F5 100000) 227 kd3.k.args (mkH kd3.k.bs))=true:=⟨by decide+kernel,by decide+kernel⟩
set_option maxRecDepth 1000000 in
theorem aNO:okD kd4=true∧fP kd4 (aU F5 (exec F5 100000) 227 kd4.k.args (mkH kd4.k.bs))=true:=⟨by decide+kernel,by decide+kernel⟩
set_option maxRecDepth 1000000 in
theorem aNP:okD kd5=true∧fP kd5 (aU F5 (exec F5 100000) 227 kd5.k.args (mkH kd5.k.bs))=true:=⟨by decide+kernel,by decide+kernel⟩
set_option maxRecDepth 1000000 in
theorem aNQ:okD kd6=true∧fP kd6 (aU F5 (exec F5 100000) 226 kd6.k.args (mkH kd6.k.bs))=true:=⟨by decide+kernel,by decide+kernel⟩
set_option maxRecDepth 1000000 in
theorem aNR:okD kd7=true∧fP kd7 (aU F5 (exec F5 100000) 227 kd7.k.args (mkH kd7.k.bs))=true:=⟨by decide+kernel,by decide+kernel⟩
set_option maxRecDepth 1000000 in
theorem aNS:okD kd8=true∧fP kd8 (aU F5 (exec F5 100000) 227 kd8.k.args (mkH kd8.k.bs))=true:=⟨by decide+kernel,by decide+kernel⟩
set_option maxRecDepth 1000000 in
theorem aNT:okD kd9=true∧fP kd9 (aU F5 (exec F5 100000) 227 kd9.k.args (mkH kd9.k.bs))=true:=⟨by decide+kernel,by decide+kernel⟩
set_option maxRecDepth 1000000 in
theorem aLn:okD aCJ=true∧fP aCJ (aU F5 (exec F5 100000) 227 aCJ.k.args (mkH aCJ.k.bs))=true:=⟨by decide+kernel,by decide+kernel⟩
set_option maxRecDepth 1000000 in
theorem aLo:okD aCK=true∧fP aCK (aU F5 (exec F5 100000) 227 aCK.k.args (mkH aCK.k.bs))=true:=⟨by decide+kernel,by decide+kernel⟩
set_option maxRecDepth 1000000 in
theorem aLp:okD aCL=true∧fP aCL (aU F5 (exec F5 100000) 227 aCL.k.args (mkH aCL.k.bs))=true:=⟨by decide+kernel,by decide+kernel⟩
set_option maxRecDepth 1000000 in
theorem aLq:okD aCM=true∧fP aCM (aU F5 (exec F5 100000) 227 aCM.k.args (mkH aCM.k.bs))=true:=⟨by decide+kernel,by decide+kernel⟩
set_option maxRecDepth 1000000 in
theorem aLr:okD aCN=true∧fP aCN (aU F5 (exec F5 100000) 227 aCN.k.args (mkH aCN.k.bs))=true:=⟨by decide+kernel,by decide+kernel⟩
set_option maxRecDepth 1000000 in
theorem aLs:okD aCO=true∧fP aCO (aU F5 (exec F5 100000) 227 aCO.k.args (mkH aCO.k.bs))=true:=⟨by decide+kernel,by decide+kernel⟩
theorem aLt:∀p∈aJf,okD p=true∧fP p (aU F5 (exec F5 100000) 227 p.k.args (mkH p.k.bs))=true:=fun p hp=>by
 rcases List.mem_cons.1 hp with rfl|hp
 ·exact aNK
 rcases List.mem_cons.1 hp with rfl|hp
 ·exact aNM
 rcases List.mem_cons.1 hp with rfl|hp
 ·exact aNN
 rcases List.mem_cons.1 hp with rfl|hp
 ·exact aNO
 rcases List.mem_cons.1 hp with rfl|hp
 ·exact aNP
 rcases List.mem_cons.1 hp with rfl|hp
 ·exact aNR
 rcases List.mem_cons.1 hp with rfl|hp
 ·exact aNS
 rcases List.mem_cons.1 hp with rfl|hp
 ·exact aNT
 rcases List.mem_cons.1 hp with rfl|hp
 ·exact aLn
 rcases List.mem_cons.1 hp with rfl|hp
 ·exact aLo
 rcases List.mem_cons.1 hp with rfl|hp
 ·exact aLp
 rcases List.mem_cons.1 hp with rfl|hp
 ·exact aLq
 rcases List.mem_cons.1 hp with rfl|hp
 ·exact aLr
 rcases List.mem_cons.1 hp with rfl|hp
 ·exact aLs
 cases hp
theorem aLu:∀p∈aJg,okD p=true∧fP p (aU F5 (exec F5 100000) 226 p.k.args (mkH p.k.bs))=true:=fun p hp=>by
 rcases List.mem_cons.1 hp with rfl|hp
 ·exact aNL
 rcases List.mem_cons.1 hp with rfl|hp
 ·exact aNQ
 cases hp
end E
end Go.Proofs.YtamnpcdkcdfgaaaGreatDoor
